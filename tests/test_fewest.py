"""Tests of livenames.fewest."""

import itertools
import unittest

from livenames.clashing import hurt
from livenames.errors import NoTerm
from livenames.fewest import accepts_fewest, crowd, fewest, fewest_paper, told_naming, width
from livenames.terms import Term
from livenames.walks import free_names, names_of
from livenames.writing import is_right, written
from tests.checks import NO_NUMBERS, NO_TERMS, Checks
from tests.slow import Walk
from tests.trees import EMPTY, PLAIN, RICH, X, Y, drawn_terms, greatest_terms, nested_terms, small_terms, use_name

Z = ("use", "z")

# The example of the document: {x||{y||f(x,y,z)}}.
PAIR = Term(("bind", "x", (), ("bind", "y", (), ("join", "f", (X, Y, Z)))))
# Free names that are live nowhere at a binder.
BESIDE = Term(("join", "f", (("bind", "x", (Y,), X), Y, Z)))
NOTHING = [Term(EMPTY), Term(("join", "f", (EMPTY, ("join", "g", ()))))]


def letters_in_order():
    for size in itertools.count(1):
        for letters in itertools.product("abcdefghijklmnopqrstuvwxyz", repeat=size):
            yield "".join(letters)


def first_ones(walk, apart):
    """The told naming, as the document says it."""
    naming = []
    for binder in walk.binders:
        taken = [walk.name_by(naming, one) for one in walk.live_at(binder)]
        others = (name for name in letters_in_order() if name not in walk.free)
        pool = others if apart else itertools.chain(walk.free, others)
        naming.append(next(name for name in pool if name not in taken))
    return tuple(naming)


def many_names(walk, naming):
    return len({*naming, *walk.free})


class TestWidth(Checks):

    def test_width(self):
        self.assert_same(width(PAIR), 3)
        self.assert_same(width(Term(PLAIN)), 1)
        self.assert_same(width(Term(("bind", "x", (), EMPTY))), 1)
        self.assert_same(width(Term(("bind", "x", (), Z))), 2)
        self.assert_same(width(Term(("bind", "x", (), ("bind", "y", (), Y)))), 1)
        self.assert_same(width(Term(("bind", "x", (), ("bind", "y", (), X)))), 2)

    def test_without_binders(self):
        for term in NOTHING:
            self.assert_same(width(term), 0)
        self.assert_same(width(Term(X)), 1)
        self.assert_same(width(Term(("join", "f", (X, Y, X, Z)))), 3)

    def test_free_names_that_are_live_nowhere(self):
        self.assert_same(width(BESIDE), 2)
        self.assert_same(width(Term(("join", "f", (PLAIN, Y)))), 1)
        self.assert_same(width(Term(("join", "f", (("bind", "x", (), Z), Y)))), 2)

    def test_fewest(self):
        self.assert_same((fewest(PAIR), fewest(PAIR, apart=True)), (3, 3))
        self.assert_same((fewest(BESIDE), fewest(BESIDE, apart=True)), (2, 3))
        self.assert_same((fewest(Term(PLAIN)), fewest(Term(PLAIN), apart=True)), (1, 1))
        for term in NOTHING:
            self.assert_same((fewest(term), fewest(term, apart=True)), (0, 0))
        self.assert_same((fewest(Term(X)), fewest(Term(X), apart=True)), (1, 1))
        # The free names and the binders are most at other places.
        term = Term(("join", "f", (("bind", "x", (), ("bind", "y", (), X)), ("bind", "x", (), ("join", "g", (Y, Z))))))
        self.assert_same((fewest(term), fewest(term, apart=True)), (3, 4))


class TestToldNaming(Checks):

    def test_told_naming(self):
        self.assert_same(told_naming(PAIR), ("a", "b"))
        self.assert_same(told_naming(PAIR, apart=True), ("a", "b"))
        self.assert_same(told_naming(Term(PLAIN)), ("a",))
        self.assert_same(told_naming(Term(X)), ())
        self.assert_same(told_naming(Term(X), apart=True), ())

    def test_free_names_come_first_where_they_are_not_live(self):
        self.assert_same(told_naming(BESIDE), ("y",))
        self.assert_same(told_naming(BESIDE, apart=True), ("a",))
        term = Term(("join", "f", (("use", "b"), ("bind", "x", (), ("bind", "y", (), ("join", "f", (X, Y, Z)))))))
        self.assert_same(told_naming(term), ("b", "a"))
        self.assert_same(told_naming(term, apart=True), ("a", "c"))

    def test_free_names_in_order(self):
        term = Term(("join", "f", (("use", "aa"), ("use", "b"), PLAIN, ("bind", "x", (), ("use", "b")))))
        self.assert_same(told_naming(term), ("b", "aa"))

    def test_names_that_are_free_are_left_out_of_the_others(self):
        tree = ("join", "f", tuple(("use", name) for name in ["x", "y", "v", "a", "c", "w"]))
        for name in ["w", "v", "y", "x"]:
            tree = ("bind", name, (), tree)
        self.assert_same(told_naming(Term(tree)), ("b", "d", "e", "f"))
        self.assert_same(told_naming(Term(tree), apart=True), ("b", "d", "e", "f"))

    def test_more_names_than_letters(self):
        nested = greatest_terms()[0]
        self.assertNotIn("a", free_names(nested))
        wanted = tuple(itertools.islice(letters_in_order(), 60))
        self.assertEqual(wanted[24:29], ("y", "z", "aa", "ab", "ac"))
        tree = ("join", "f", tuple(("use", use_name(number)) for number in range(60)))
        for number in range(60)[::-1]:
            tree = ("bind", use_name(number), (), tree)
        self.assert_same(told_naming(Term(tree)), wanted)
        self.assert_same(told_naming(Term(tree), apart=True), wanted)

    def test_as_the_document_says_it(self):
        for term in small_terms() + drawn_terms(200, 9):
            walk = Walk(term)
            self.assert_same(told_naming(term), first_ones(walk, False))
            self.assert_same(told_naming(term, apart=True), first_ones(walk, True))

    def test_apart_counts_just_if_it_is_true(self):
        for value in [1, "yes", [0], (1,), {1: 1}, 1.0, object(), None, 0, False, ""]:
            self.assert_same(told_naming(BESIDE, apart=value), ("y",))
            self.assert_same(fewest(BESIDE, apart=value), 2)

    def test_apart_by_name_alone(self):
        for call in [told_naming, fewest]:
            with self.assertRaises(TypeError):
                call(PAIR, True)

    def test_right_and_with_the_fewest_names(self):
        for term in small_terms() + nested_terms() + drawn_terms(200, 9):
            walk = Walk(term)
            for apart in [False, True]:
                naming = told_naming(term, apart=apart)
                self.assertIs(is_right(term, naming), True)
                self.assertEqual(hurt(term, naming), [])
                self.assertEqual(many_names(walk, naming), fewest(term, apart=apart))
                told = written(term, naming)
                self.assertEqual(len({*names_of(told), *free_names(told)}), fewest(term, apart=apart))
                self.assertFalse(apart and set(naming) & set(walk.free))

    def test_no_right_naming_has_fewer_names(self):
        for term in small_terms()[::3] + nested_terms()[::9]:
            walk = Walk(term)
            fresh = ["k", "l", "m", "n"][:len(walk.names)]
            right = walk.right_namings(walk.free + fresh)
            self.assertEqual(min(many_names(walk, naming) for naming in right), fewest(term))
            right = walk.right_namings(fresh)
            self.assertEqual(min(many_names(walk, naming) for naming in right), fewest(term, apart=True))


class TestCrowd(Checks):

    def assert_crowd(self, term, told):
        self.assertIs(type(told), list)
        self.assertEqual(len(told), width(term))
        self.assertEqual(len(told), len(set(told)))
        walk = Walk(term)
        clashing = set(walk.clashing)
        self.assertLessEqual(set(told), {*walk.binders, *walk.free})
        for one, other in itertools.combinations(told, 2):
            both_free = isinstance(one, str) and isinstance(other, str)
            self.assertTrue(both_free or (one, other) in clashing or (other, one) in clashing, (one, other))

    def test_crowds(self):
        self.assert_same(sorted(crowd(PAIR), key=str), [0, 1, "z"])
        self.assert_same(crowd(Term(PLAIN)), [0])
        self.assert_same(crowd(BESIDE), ["y", "z"])
        for term in NOTHING:
            self.assert_same(crowd(term), [])

    def test_all_small_terms(self):
        for term in small_terms() + nested_terms() + drawn_terms(200, 9) + tuple(greatest_terms()):
            self.assert_crowd(term, crowd(term))


class TestPapers(Checks):

    def test_papers(self):
        self.assert_same(fewest_paper(PAIR), (("a", "b"), 1))
        self.assert_same(fewest_paper(Term(PLAIN)), (("a",), 0))
        self.assert_same(fewest_paper(Term(X)), ((), None))
        self.assert_same(fewest_paper(BESIDE), (("y",), None))
        for term in NOTHING:
            self.assert_same(fewest_paper(term), ((), None))

    def test_the_told_paper_is_accepted(self):
        for term in small_terms() + nested_terms() + drawn_terms(200, 9) + tuple(greatest_terms()) + (Term(RICH),):
            paper = fewest_paper(term)
            self.assertEqual(paper[0], told_naming(term))
            self.assertIs(accepts_fewest(term, paper), True)

    def test_other_right_papers_are_accepted(self):
        for naming in [("b", "a"), ("x", "y"), ("abcdefgh", "q")]:
            self.assertIs(accepts_fewest(PAIR, (naming, 1)), True)
        # As many names are live at either one.
        both = Term(("join", "f", (PLAIN, PLAIN, Z)))
        for paper in [(("z", "z"), 0), (("z", "z"), 1), (("z", "z"), None)]:
            self.assertIs(accepts_fewest(both, paper), True, paper)

    def test_wrong_papers(self):
        for paper in [(("a", "b"), 0), (("a", "b"), None), (("a", "a"), 1), (("z", "a"), 1), (("a", "z"), 1)]:
            self.assertIs(accepts_fewest(PAIR, paper), False, paper)
        both = Term(("join", "f", (PLAIN, PLAIN, Z)))
        for paper in [(("a", "a"), 0), (("a", "z"), None), (("z", "a"), 1), (("a", "b"), 0)]:
            self.assertIs(accepts_fewest(both, paper), False, paper)
        # As many names as are live at the binder, and wrong.
        self.assertIs(accepts_fewest(PAIR, (("z", "z"), None)), False)
        self.assertIs(accepts_fewest(PAIR, (("z", "a"), 0)), False)

    def test_any_value(self):
        good = (("a", "b"), 1)
        self.assertIs(accepts_fewest(PAIR, good), True)
        wrong = NO_NUMBERS + [0, 1, (), (("a", "b"),), ("a", "b", 1), (*good, None), [("a", "b"), 1], [*good], ["ab", 1]]
        wrong += [(["a", "b"], 1), ("ab", 1), (("a",), 1), (("a", "b", "c"), 1), (("a", None), 1), (("a", "B"), 1)]
        wrong += [(1, ("a", "b")), (None, 1), (1, 1), ((), None), ({"a": 1, "b": 2}, 1), {("a", "b"): 1, 1: 1}]
        wrong += [(("a", "b"), binder) for binder in NO_NUMBERS + [-1, 2, 3, 10 ** 50, "1"]]
        for paper in wrong:
            self.assertIs(accepts_fewest(PAIR, paper), False, paper)
        for paper in NO_NUMBERS + [(), ((), 0), ((), True), ((), False), ([], None), [(), None], ("", None), ((),)]:
            self.assertIs(accepts_fewest(Term(X), paper), False, paper)
        self.assertIs(accepts_fewest(Term(X), ((), None)), True)
        self.assertIs(accepts_fewest(Term(PLAIN), (("a",), False)), False)
        self.assertIs(accepts_fewest(Term(("bind", "y", (), ("bind", "x", (), Y))), (("a", "b"), True)), False)

    def test_accepted_exactly_if_right(self):
        for term in small_terms()[::5] + nested_terms()[::40]:
            walk = Walk(term)
            pool = walk.free + ["k", "l", "m"]
            for naming in walk.all_namings(pool[:3] if len(walk.names) > 3 else pool[:4]):
                for binder in [None, *walk.binders]:
                    needed = len(walk.free) if binder is None else len(walk.live_at(binder)) + 1
                    right = walk.is_right(naming) and many_names(walk, naming) == needed
                    self.assertIs(accepts_fewest(term, (naming, binder)), right)
                    self.assertFalse(right and needed != fewest(term))


class TestArguments(Checks):

    def test_no_term(self):
        for value in NO_TERMS:
            for call in [width, fewest, told_naming, crowd, fewest_paper]:
                self.assert_error(NoTerm, value, call, value)
            for call in [fewest, told_naming]:
                self.assert_error(NoTerm, value, call, value, apart=True)
            for paper in [None, ((), None), value]:
                self.assert_error(NoTerm, value, accepts_fewest, value, paper)

    def test_by_name(self):
        self.assertEqual(width(term=PAIR), 3)
        self.assertEqual(fewest(apart=True, term=BESIDE), 3)
        self.assertEqual(told_naming(apart=True, term=BESIDE), ("a",))
        self.assertEqual(crowd(term=PAIR), crowd(PAIR))
        self.assertEqual(fewest_paper(term=PAIR), (("a", "b"), 1))
        self.assertIs(accepts_fewest(paper=(("a", "b"), 1), term=PAIR), True)

    def test_new_lists(self):
        for term in [PAIR, BESIDE, NOTHING[0]]:
            self.assert_new_lists(crowd, term)

    def test_the_greatest_terms(self):
        for term in greatest_terms():
            walk = Walk(term)
            for apart in [False, True]:
                naming = told_naming(term, apart=apart)
                self.assertEqual(naming, first_ones(walk, apart))
                self.assertEqual(many_names(walk, naming), fewest(term, apart=apart))
            self.assertEqual(fewest(term), width(term))


if __name__ == "__main__":
    unittest.main()
