"""Tests of livenames.keeping."""

import itertools
import unittest

from livenames.errors import NoNames, NoTerm, NoWeights, NoWishes
from livenames.keeping import are_weights, are_wishes, kept_by, kept_weight, most_kept, shared, told_kept
from livenames.terms import Term
from livenames.walks import names_of
from livenames.writing import is_right
from tests.checks import NO_NUMBERS, NO_TERMS, Checks
from tests.slow import Walk
from tests.trees import EMPTY, PLAIN, X, Y, drawn_terms, greatest_terms, nested_terms, small_terms, use_name
from tests.values import NO_NAMES, NO_TEXTS
from tests.wishing import Wished, wished_terms

Z = ("use", "z")

# {x||{y||f(x,y,z)}}
PAIR = Term(("bind", "x", (), ("bind", "y", (), ("join", "f", (X, Y, Z)))))
# The example of the document: {x||{y||{z||f(x,y,z)}}}.
THREE = Term(("bind", "x", (), ("bind", "y", (), ("bind", "z", (), ("join", "f", (X, Y, Z))))))
# {x||f(x,{y||g(x)},{z||g(x)})}: the outer one clashes with both others.
FORK = Term(("bind", "x", (), ("join", "f", (X, ("bind", "y", (), X), ("bind", "z", (), X)))))

NO_ROWS = [
    None, True, False, 0, 2, "", "ab", b"ab", [], (), {}, {"a": 1, "b": 2}, {0: "a", 1: "b"}, {0: 1, 1: 2}, set(),
    {1, 2}, object(), range(2), iter([1, 2]), PAIR, PAIR.tree(), [[1, 2]], [["a", "b"]],
]
NO_WISHES = NO_ROWS + [["a"], ("a",), [None], ["a", "b", "c"], (None, None, None)] + [
    wishes for bad in NO_NAMES + NO_TEXTS[1:] for wishes in [[bad, "b"], ("a", bad), [None, bad]]
]
NO_WEIGHTS = NO_ROWS + [[1], (1,), [1, 2, 3], ["1", "2"]] + [
    weights for bad in NO_NUMBERS + [-1, 1001, 1002, 10 ** 50, -1000] for weights in [[bad, 1], (1, bad)]
]
WRONG_NAMINGS = [("a", "a"), ["z", "a"], ("a", "z"), None, "ab", (), ["a"], ("a", "b", "c"), ["a", None], ("a", "B"), {}]


class TestRows(Checks):

    def test_wishes(self):
        for wishes in [["a", "b"], ("a", "b"), [None, None], (None, "a"), ["a", "a"], ["x", "z"], ("abcdefgh", None)]:
            self.assertIs(are_wishes(PAIR, wishes), True, wishes)
        for wishes in [[], ()]:
            self.assertIs(are_wishes(Term(X), wishes), True)

    def test_no_wishes(self):
        for value in NO_WISHES:
            self.assertIs(are_wishes(PAIR, value), False, value)
        for value in [None, "", {}, [None], ["a"], 0]:
            self.assertIs(are_wishes(Term(X), value), False, value)

    def test_weights(self):
        for weights in [[0, 0], (0, 1000), [1000, 1000], (1, 999)]:
            self.assertIs(are_weights(PAIR, weights), True, weights)
        for weights in [[], ()]:
            self.assertIs(are_weights(Term(X), weights), True)

    def test_no_weights(self):
        for value in NO_WEIGHTS:
            self.assertIs(are_weights(PAIR, value), False, value)
        for value in [None, "", {}, [0], (1,), 0]:
            self.assertIs(are_weights(Term(X), value), False, value)


class TestKept(Checks):

    def test_kept_by(self):
        self.assert_same(kept_by(PAIR, ["a", "b"], ("a", "b")), [0, 1])
        self.assert_same(kept_by(PAIR, ("a", "b"), ["a", "c"]), [0])
        self.assert_same(kept_by(PAIR, ["a", "b"], ("b", "a")), [])
        self.assert_same(kept_by(PAIR, [None, "b"], ("a", "b")), [1])
        self.assert_same(kept_by(PAIR, [None, None], ("a", "b")), [])
        self.assert_same(kept_by(FORK, ["a", "b", "b"], ("a", "b", "b")), [0, 1, 2])
        self.assert_same(kept_by(Term(X), [], ()), [])

    def test_kept_weight(self):
        self.assert_same(kept_weight(PAIR, ["a", "b"], [3, 5], ("a", "b")), 8)
        self.assert_same(kept_weight(PAIR, ["a", "b"], (3, 5), ["a", "c"]), 3)
        self.assert_same(kept_weight(PAIR, ["a", "b"], (3, 5), ["c", "b"]), 5)
        self.assert_same(kept_weight(PAIR, ["a", "b"], (3, 5), ["b", "a"]), 0)
        self.assert_same(kept_weight(PAIR, [None, "b"], (1000, 0), ["a", "b"]), 0)
        self.assert_same(kept_weight(PAIR, ["a", "b"], (1000, 1000), ["a", "b"]), 2000)
        self.assert_same(kept_weight(Term(X), [], [], []), 0)


class TestToldKept(Checks):

    def test_the_example(self):
        wishes = ["x", "x", "x"]
        self.assert_same(told_kept(THREE, wishes, [5, 3, 4]), ("x", "a", "b"))
        self.assert_same(most_kept(THREE, wishes, [5, 3, 4]), 5)

    def test_binders_of_one_wish_that_clash(self):
        # The outer one is kept just if it weighs more than both others.
        self.assert_same(told_kept(FORK, ["q", "q", "q"], [5, 2, 2]), ("q", "a", "b"))
        self.assert_same(told_kept(FORK, ["q", "q", "q"], [5, 2, 3]), ("a", "q", "q"))
        self.assert_same(told_kept(FORK, ["q", "q", "q"], [5, 3, 3]), ("a", "q", "q"))
        self.assert_same([most_kept(FORK, ["q"] * 3, weights) for weights in [[5, 2, 2], [5, 2, 3], (5, 3, 3)]], [5, 5, 6])
        self.assert_same(told_kept(FORK, ["q", "q", "w"], [1, 1000, 0]), ("a", "q", "b"))

    def test_wishes_that_are_free_and_live(self):
        self.assert_same(told_kept(PAIR, ["z", "z"], [1000, 1000]), ("a", "b"))
        self.assert_same(most_kept(PAIR, ["z", "z"], [1000, 1000]), 0)

    def test_wishes_that_are_free_and_not_live(self):
        beside = Term(("join", "f", (Z, ("bind", "x", (Z,), X), ("bind", "y", (), Z))))
        self.assert_same(told_kept(beside, ["z", "z"], [1, 1]), ("z", "a"))
        self.assert_same(most_kept(beside, ["z", "z"], [1, 7]), 1)

    def test_a_wish_that_is_free_and_live_at_the_outer_one_alone(self):
        # The outer one has no price, whatever its weight, and does not stand in the way of the inner one.
        term = Term(("bind", "x", (), ("join", "f", (Z, ("bind", "y", (), X)))))
        self.assert_same(told_kept(term, ["z", "z"], [9, 1]), ("a", "z"))
        self.assert_same(most_kept(term, ["z", "z"], [9, 1]), 1)
        # Free ahead of both, the name is live at none of them.
        term = Term(("bind", "x", (Z,), ("join", "f", (X, ("bind", "y", (), X)))))
        self.assert_same(told_kept(term, ["z", "z"], [2, 9]), ("a", "z"))
        self.assert_same(told_kept(term, ["z", "z"], [2, 1]), ("z", "a"))

    def test_none_and_nought(self):
        self.assert_same(told_kept(PAIR, [None, None], [1000, 1000]), ("a", "b"))
        self.assert_same(told_kept(PAIR, ["p", "q"], [0, 0]), ("a", "b"))
        self.assert_same(most_kept(PAIR, [None, "q"], [1000, 0]), 0)
        self.assert_same(told_kept(PAIR, [None, "q"], [1000, 1]), ("a", "q"))
        self.assert_same(told_kept(Term(X), [], []), ())
        self.assert_same(most_kept(Term(EMPTY), (), ()), 0)

    def test_other_binders_get_names_that_are_nowhere(self):
        # a is free, b is a binder's name, c is wished, though not kept.
        term = Term(("bind", "b", (), ("bind", "y", (), ("join", "f", (("use", "b"), Y, ("use", "a"))))))
        self.assert_same(told_kept(term, ["a", "c"], [9, 0]), ("d", "e"))
        self.assert_same(told_kept(term, ["c", "c"], [9, 1]), ("c", "d"))
        self.assert_same(told_kept(term, [None, "c"], [9, 1]), ("d", "c"))

    def test_as_the_document_says_it(self):
        for term, wishes, weights in wished_terms():
            wished = Wished(term, wishes, weights)
            self.assert_same(told_kept(term, wishes, weights), wished.naming())
            self.assert_same(told_kept(term, tuple(wishes), tuple(weights)), wished.naming())

    def test_kept_and_no_right_naming_keeps_more(self):
        for term, wishes, weights in wished_terms():
            wished = Wished(term, wishes, weights)
            naming = told_kept(term, wishes, weights)
            self.assertIs(is_right(term, naming), True)
            most = most_kept(term, wishes, weights)
            self.assert_same(kept_weight(term, wishes, weights, naming), most)
            self.assertEqual(wished.weight_by(naming), most)
            self.assertEqual(max(wished.weight_by(right) for right in wished.right_namings()), most)

    def test_what_all_right_namings_keep(self):
        for term, wishes, weights in wished_terms()[::9]:
            wished = Wished(term, wishes, weights)
            for naming in wished.right_namings():
                kept = [binder for binder, name in enumerate(naming) if name == wishes[binder]]
                self.assert_same(kept_by(term, wishes, naming), kept)
                self.assert_same(kept_weight(term, wishes, weights, list(naming)), wished.weight_by(naming))

    def test_what_is_handed_in_stays(self):
        wishes, weights = ["q", "q", None], [5, 6, 7]
        told_kept(FORK, wishes, weights)
        most_kept(FORK, wishes, weights)
        self.assertEqual((wishes, weights), (["q", "q", None], [5, 6, 7]))


class TestShared(Checks):

    def can_share(self, walk, binders):
        return not any(walk.clash(one, other) for one, other in itertools.combinations(binders, 2))

    def test_shared(self):
        self.assert_same(shared(FORK), [1, 2])
        self.assert_same(len(shared(THREE)), 1)
        self.assert_same(shared(Term(PLAIN)), [0])
        self.assert_same(shared(Term(X)), [])
        self.assert_same(shared(Term(("bind", "x", (), Z))), [0])
        self.assert_same(shared(Term(("join", "f", (PLAIN, PLAIN, PLAIN)))), [0, 1, 2])

    def test_the_name_is_not_free_whatever_names_are(self):
        names = ["one", "a", "x", "y", "shared", "name"]
        term = Term(("bind", "x", (), ("join", "f", tuple(("use", name) for name in names))))
        self.assert_same(shared(term), [0])

    def test_as_many_as_can_be(self):
        for term in small_terms() + nested_terms() + drawn_terms(200, 9):
            walk = Walk(term)
            told = shared(term)
            self.assertEqual(told, sorted(set(told)))
            self.assertLessEqual(set(told), set(walk.binders))
            self.assertTrue(self.can_share(walk, told))
            for more in itertools.combinations(walk.binders, len(told) + 1):
                self.assertFalse(self.can_share(walk, more))

    def test_they_can_have_one_name(self):
        for term in small_terms()[::5]:
            told = shared(term)
            others = ["k", "l", "m", "n"]
            naming = ["qq" if binder in told else others[binder] for binder in range(len(term.binders()))]
            self.assertIs(is_right(term, naming), True)


class TestWrongArguments(Checks):

    def test_no_term(self):
        for value in NO_TERMS:
            self.assert_error(NoTerm, value, shared, value)
            for row in [[], None, ["a"], value]:
                self.assert_error(NoTerm, value, are_wishes, value, row)
                self.assert_error(NoTerm, value, are_weights, value, row)
                self.assert_error(NoTerm, value, kept_by, value, row, row)
                self.assert_error(NoTerm, value, kept_weight, value, row, row, row)
                self.assert_error(NoTerm, value, told_kept, value, row, row)
                self.assert_error(NoTerm, value, most_kept, value, row, row)

    def test_no_wishes(self):
        for value in NO_WISHES:
            for last in [[1, 1], None]:
                self.assert_error(NoWishes, value, kept_by, PAIR, value, last)
                self.assert_error(NoWishes, value, kept_weight, PAIR, value, last, last)
                self.assert_error(NoWishes, value, told_kept, PAIR, value, last)
                self.assert_error(NoWishes, value, most_kept, PAIR, value, last)

    def test_no_weights(self):
        for value in NO_WEIGHTS:
            for last in [("a", "b"), None, ["a", "a"]]:
                self.assert_error(NoWeights, value, kept_weight, PAIR, ["a", "b"], value, last)
            self.assert_error(NoWeights, value, told_kept, PAIR, ["a", "b"], value)
            self.assert_error(NoWeights, value, most_kept, PAIR, (None, "b"), value)

    def test_no_right_naming(self):
        for value in WRONG_NAMINGS:
            self.assert_error(NoNames, value, kept_by, PAIR, ["a", "b"], value)
            self.assert_error(NoNames, value, kept_weight, PAIR, ["a", "b"], [1, 2], value)

    def test_arguments_by_name(self):
        self.assertIs(are_wishes(value=["a", None], term=PAIR), True)
        self.assertIs(are_weights(value=[0, 1], term=PAIR), True)
        self.assertEqual(kept_by(names=("a", "b"), wishes=["a", None], term=PAIR), [0])
        self.assertEqual(kept_weight(weights=[4, 5], names=("a", "b"), wishes=["a", None], term=PAIR), 4)
        self.assertEqual(told_kept(weights=[4, 5], wishes=["q", None], term=PAIR), ("q", "a"))
        self.assertEqual(most_kept(weights=[4, 5], wishes=["q", None], term=PAIR), 4)
        self.assertEqual(shared(term=FORK), [1, 2])
        self.assert_error(NoWishes, None, kept_weight, weights=None, names=None, wishes=None, term=PAIR)

    def test_new_lists(self):
        self.assert_new_lists(kept_by, PAIR, ["a", "b"], ("a", "b"))
        self.assert_new_lists(shared, FORK)

    def test_the_greatest_terms(self):
        for term in greatest_terms():
            many = len(term.binders())
            for wishes in [["x"] * many, [None] * many, list(names_of(term)), [use_name(number % 5) for number in range(many)]]:
                weights = [(number * 37) % 1001 for number in range(many)]
                wished = Wished(term, wishes, weights)
                naming = told_kept(term, wishes, weights)
                self.assertEqual(naming, wished.naming())
                self.assertEqual(most_kept(term, wishes, weights), kept_weight(term, wishes, weights, naming))
                self.assertEqual(kept_by(term, wishes, naming), sorted(wished.kept))
            self.assertEqual(shared(term), sorted(Wished(term, ["qq"] * many, [1] * many).kept))


if __name__ == "__main__":
    unittest.main()
