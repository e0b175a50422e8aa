"""Tests of livenames.writing."""

import unittest

from livenames.errors import NoNames, NoTerm
from livenames.terms import Term
from livenames.walks import alike, names_of
from livenames.writing import are_names, catches, is_right, written
from tests.checks import NO_TERMS, Checks
from tests.slow import Walk
from tests.trees import EMPTY, PLAIN, RICH, X, Y, greatest_terms, small_terms, use_name
from tests.values import NO_NAMES, NO_TEXTS

Z = ("use", "z")
F_XYZ = ("join", "f", (X, Y, Z))

# The example of the document: {x||{y||f(x,y,z)}}.
PAIR = Term(("bind", "x", (), ("bind", "y", (), F_XYZ)))
# A binder with an ahead use of the one around it, and a free use behind all.
AHEAD = Term(("join", "g", (("bind", "x", (), ("bind", "y", (X, Z), Y)), Z)))

# What is no naming of a term of two binders.
NO_PAIRS = [
    None, True, 0, 2, "ab", "", "a b", b"ab", [], (), ["a"], ("a",), ["a", "b", "c"], ("a", "b", "c"),
    {"a": 1, "b": 2}, {0: "a", 1: "b"}, {"a", "b"}, object(), [["a", "b"]], (("a", "b"),), iter(["a", "b"]),
    PAIR, PAIR.tree(),
] + [pair for bad in NO_NAMES + NO_TEXTS for pair in [[bad, "b"], ("a", bad), [bad, bad]]]


class TestAreNames(Checks):

    def test_names(self):
        for names in [["a", "b"], ("a", "b"), ["a", "a"], ("x", "y"), ["z", "z"], ("abcdefgh", "bind")]:
            self.assertIs(are_names(PAIR, names), True, names)
        for names in [[], ()]:
            self.assertIs(are_names(Term(X), names), True)

    def test_no_names(self):
        for value in NO_PAIRS:
            self.assertIs(are_names(PAIR, value), False, value)
        for value in [None, "", {}, set(), ["a"], ("a",), 0, False, [None], [[]]]:
            self.assertIs(are_names(Term(X), value), False, value)


class TestWritten(Checks):

    def test_written(self):
        self.assertEqual(written(PAIR, ("a", "b")).tree(), ("bind", "a", (), ("bind", "b", (), ("join", "f", (
            ("use", "a"), ("use", "b"), Z,
        )))))
        self.assertEqual(written(AHEAD, ["y", "z"]).tree(), ("join", "g", (
            ("bind", "y", (), ("bind", "z", (Y, Z), Z)), Z,
        )))
        self.assertEqual(written(Term(X), []), Term(X))
        self.assertEqual(written(Term(EMPTY), ()), Term(EMPTY))

    def test_wrong_namings_are_written_as_well(self):
        self.assertEqual(written(PAIR, ["a", "a"]).tree(), ("bind", "a", (), ("bind", "a", (), ("join", "f", (
            ("use", "a"), ("use", "a"), Z,
        )))))
        self.assertEqual(written(PAIR, ["z", "z"]).tree(), ("bind", "z", (), ("bind", "z", (), ("join", "f", (Z,) * 3))))

    def test_free_uses_and_labels_keep_their_names(self):
        term = Term(("bind", "x", (X, PLAIN), ("join", "x", (X, Y, ("join", "y", ())))))
        a = ("use", "a")
        self.assertEqual(written(term, ["a", "b"]).tree(), ("bind", "a", (X, ("bind", "b", (), ("use", "b"))), (
            "join", "x", (a, Y, ("join", "y", ())))))

    def test_by_its_own_names_a_term_is_as_it_was(self):
        for term in small_terms() + tuple(greatest_terms()) + (Term(RICH),):
            self.assertEqual(written(term, names_of(term)), term)
            self.assertIs(is_right(term, names_of(term)), True)
            self.assertEqual(catches(term, names_of(term)), [])

    def test_the_term_and_the_names_stay(self):
        names = ["a", "b"]
        told = written(PAIR, names)
        self.assertIs(type(told), Term)
        names[0] = "c"
        self.assertEqual(names_of(told), ("a", "b"))
        self.assertEqual(PAIR, Term(("bind", "x", (), ("bind", "y", (), F_XYZ))))


class TestRight(Checks):

    def test_right_and_wrong(self):
        for names in [("a", "b"), ["a", "b"], ("y", "x"), ("x", "y"), ["x", "f"]]:
            self.assertIs(is_right(PAIR, names), True, names)
        for names in [("a", "a"), ["a", "a"], ("a", "z"), ("z", "a"), ("z", "z")]:
            self.assertIs(is_right(PAIR, names), False, names)

    def test_one_name_twice_may_be_right(self):
        for tree in [
            ("bind", "x", (), ("bind", "y", (), Y)), ("bind", "x", (), ("bind", "y", (X,), Y)),
            ("join", "f", (PLAIN, ("bind", "y", (), Y))), ("bind", "x", (PLAIN,), X),
        ]:
            self.assertIs(is_right(Term(tree), ["a", "a"]), True, tree)

    def test_a_free_name_may_be_right(self):
        self.assertIs(is_right(Term(("join", "f", (Z, PLAIN))), ["z"]), True)
        self.assertIs(is_right(Term(("bind", "x", (Z,), X)), ["z"]), True)
        self.assertIs(is_right(Term(("bind", "x", (), ("join", "f", (X, Z)))), ["z"]), False)
        self.assertIs(is_right(Term(("bind", "x", (), Z)), ["z"]), False)

    def test_no_binders(self):
        for tree in [X, EMPTY]:
            self.assertIs(is_right(Term(tree), []), True)
            self.assertIs(is_right(Term(tree), ()), True)


class TestCatches(Checks):

    def test_by_an_inner_binder(self):
        self.assert_same(catches(PAIR, ("a", "a")), [(0, 1, 0)])
        self.assert_same(catches(PAIR, ["a", "a"]), [(0, 1, 0)])
        self.assert_same(catches(PAIR, ("a", "b")), [])

    def test_of_a_free_name(self):
        self.assert_same(catches(PAIR, ("z", "a")), [(2, 0, "z")])
        self.assert_same(catches(PAIR, ("a", "z")), [(2, 1, "z")])
        self.assert_same(catches(PAIR, ("z", "z")), [(0, 1, 0), (2, 0, "z"), (2, 1, "z")])

    def test_of_uses_in_ahead_trees(self):
        self.assert_same(catches(AHEAD, ("z", "a")), [(1, 0, "z")])
        self.assert_same(catches(AHEAD, ("a", "z")), [])
        self.assert_same(catches(AHEAD, ("a", "a")), [])
        self.assert_same(catches(AHEAD, ("z", "z")), [(1, 0, "z")])

    def test_by_all_binders_between_by_use_then_binder(self):
        tree = ("join", "f", (X, Y, X))
        for name in ["w", "v", "y", "x"]:
            tree = ("bind", name, (), tree)
        wanted = [(0, 1, 0), (0, 2, 0), (0, 3, 0), (1, 2, 1), (1, 3, 1), (2, 1, 0), (2, 2, 0), (2, 3, 0)]
        self.assert_same(catches(Term(tree), ("a", "a", "a", "a")), wanted)
        self.assert_same(catches(Term(tree), ("a", "b", "b", "a")), [(0, 3, 0), (1, 2, 1), (2, 3, 0)])

    def test_a_binder_of_the_same_name_outside_catches_nothing(self):
        tree = ("bind", "x", (), ("bind", "y", (), ("join", "f", (Y, X))))
        self.assert_same(catches(Term(tree), ("a", "a")), [(1, 1, 0)])


class TestSmallTerms(Checks):

    def test_all_namings_of_all_small_terms(self):
        for term in small_terms():
            walk = Walk(term)
            for names in walk.all_namings(["x", "z", "ab"] if len(walk.names) > 3 else ["x", "y", "z", "a"]):
                right = walk.is_right(names)
                self.assertIs(is_right(term, names), right, (term.tree(), names))
                self.assert_same(catches(term, list(names)), walk.catches(names))

    def test_right_is_that_the_written_term_is_alike(self):
        for term in small_terms()[::7]:
            for names in Walk(term).all_namings(["x", "z", "a"]):
                self.assertIs(is_right(term, names), alike(term, written(term, names)))
                self.assertEqual(names_of(written(term, names)), names)

    def test_the_greatest_terms(self):
        for term in greatest_terms():
            walk = Walk(term)
            for name in [lambda number: "x", use_name, lambda number: use_name(number % 7)]:
                names = [name(number) for number in walk.binders]
                self.assertIs(is_right(term, names), walk.is_right(names))
                self.assert_same(catches(term, names), walk.catches(names))


class TestWrongArguments(Checks):

    def test_no_term(self):
        for value in NO_TERMS:
            for call in [are_names, written, is_right, catches]:
                for names in [[], ("a",), None, value]:
                    self.assert_error(NoTerm, value, call, value, names)

    def test_no_names(self):
        for call in [written, is_right, catches]:
            for value in NO_PAIRS:
                self.assert_error(NoNames, value, call, PAIR, value)
            for value in [None, "", ["a"], ("a",), {}]:
                self.assert_error(NoNames, value, call, Term(X), value)

    def test_arguments_by_name(self):
        self.assertIs(are_names(value=["a", "b"], term=PAIR), True)
        self.assertEqual(written(names=["a", "b"], term=PAIR), written(PAIR, ["a", "b"]))
        self.assertIs(is_right(names=("a", "b"), term=PAIR), True)
        self.assertEqual(catches(names=("a", "a"), term=PAIR), [(0, 1, 0)])
        self.assert_error(NoTerm, None, catches, names=None, term=None)

    def test_new_lists(self):
        self.assert_new_lists(catches, PAIR, ("z", "z"))


if __name__ == "__main__":
    unittest.main()
