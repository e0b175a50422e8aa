"""Tests of livenames.walks."""

import unittest

from livenames.errors import NoBinder, NoNode, NoTerm
from livenames.terms import Term
from livenames.walks import alike, binders_around, free_names, meaning, names_of, shape_of, uses_of
from tests.checks import NO_TERMS, Checks, no_numbers_below
from tests.slow import Walk
from tests.trees import EMPTY, PLAIN, RICH, X, Y, drawn_terms, greatest_terms, named_trees, small_terms

Z = ("use", "z")

# x binds twice, one within the other, and its own ahead trees mean the outer one or are free.
TWICE = ("bind", "x", (X, PLAIN), ("join", "f", (
    X,
    ("bind", "x", (X, ("bind", "y", (Y,), ("join", "g", (X, Y)))), ("join", "g", (X, Y, Z))),
    X,
    EMPTY,
)))


class TestNames(Checks):

    def test_names_of(self):
        self.assert_same(names_of(Term(RICH)), ("x", "y", "x", "z"))
        self.assert_same(names_of(Term(TWICE)), ("x", "x", "x", "y"))
        self.assert_same(names_of(Term(PLAIN)), ("x",))
        self.assert_same(names_of(Term(X)), ())
        self.assert_same(names_of(Term(EMPTY)), ())

    def test_ahead_binders_come_ahead_of_those_in_the_body(self):
        tree = ("bind", "a", (("bind", "b", (), X), ("bind", "c", (("bind", "d", (), X),), X)), ("bind", "e", (), X))
        self.assert_same(names_of(Term(tree)), ("a", "b", "c", "d", "e"))

    def test_free_names(self):
        self.assert_same(free_names(Term(RICH)), ["x", "y", "free", "last"])
        self.assert_same(free_names(Term(TWICE)), ["x", "y", "z"])
        self.assert_same(free_names(Term(PLAIN)), [])
        self.assert_same(free_names(Term(EMPTY)), [])

    def test_free_names_in_order_and_each_once(self):
        names = ["ab", "b", "aaa", "a", "zz", "b", "ab", "aa"]
        term = Term(("bind", "x", (), ("join", "x", tuple(("use", name) for name in names))))
        self.assert_same(free_names(term), ["a", "b", "aa", "ab", "zz", "aaa"])

    def test_a_label_is_no_free_name(self):
        self.assert_same(free_names(Term(("join", "label", (X,)))), ["x"])

    def test_a_name_that_is_free_and_bound(self):
        term = Term(("join", "f", (X, PLAIN)))
        self.assert_same((names_of(term), free_names(term), meaning(term)), (("x",), ["x"], ["x", 0]))


class TestMeaning(Checks):

    def test_binders_around(self):
        told = [binders_around(Term(TWICE), index) for index in range(len(Term(TWICE)))]
        self.assert_same(told, [
            [], [], [], [1], [0], [0], [0], [0], [0], [0], [0, 3], [0, 3], [0, 3], [0, 2], [0, 2], [0, 2], [0, 2],
            [0], [0],
        ])

    def test_meaning(self):
        self.assert_same(meaning(Term(TWICE)), ["x", 1, 0, 0, "y", 0, 3, 2, "y", "z", 0])
        self.assert_same(meaning(Term(RICH)), [0, "free", "y", "x", 1, 3, 1, "last"])

    def test_the_last_binder_of_a_name_is_meant(self):
        tree = X
        for many in range(1, 6):
            tree = ("bind", "x", (), tree)
            self.assert_same(meaning(Term(tree)), [many - 1])
        self.assert_same(meaning(Term(("bind", "x", (), ("bind", "y", (), X)))), [0])
        self.assert_same(meaning(Term(("bind", "x", (), ("bind", "y", (), ("bind", "x", (), Y))))), [1])

    def test_uses_in_ahead_trees_are_not_in_the_body(self):
        self.assert_same(meaning(Term(("bind", "x", (X,), X))), ["x", 0])
        self.assert_same(meaning(Term(("bind", "x", (), ("bind", "x", (X,), X)))), [0, 1])
        self.assert_same(meaning(Term(("bind", "x", (PLAIN, X), X))), [1, "x", 0])

    def test_no_uses(self):
        for tree in [EMPTY, ("bind", "x", (), EMPTY)]:
            self.assert_same(meaning(Term(tree)), [])

    def test_uses_of(self):
        self.assert_same([uses_of(Term(TWICE), binder) for binder in range(4)], [[2, 3, 5, 10], [1], [7], [6]])
        self.assert_same(uses_of(Term(("bind", "x", (X,), Y)), 0), [])

    def test_all_small_terms(self):
        for term in small_terms() + drawn_terms(100, 9) + tuple(greatest_terms()):
            walk = Walk(term)
            self.assert_same(names_of(term), tuple(walk.names))
            self.assert_same(free_names(term), walk.free)
            self.assert_same(meaning(term), walk.meant)
            self.assert_same([binders_around(term, index) for index in range(min(len(term), 30))],
                             [around for around, _ in walk.around[:30]])
            for binder in walk.binders:
                wanted = [use for use, meant in enumerate(walk.meant) if meant == binder]
                self.assert_same(uses_of(term, binder), wanted)


class TestShape(Checks):

    def test_shape_of(self):
        none = ("use", None)
        self.assert_same(shape_of(Term(X)), none)
        self.assert_same(shape_of(Term(EMPTY)), EMPTY)
        self.assert_same(shape_of(Term(PLAIN)), ("bind", None, (), none))
        self.assert_same(shape_of(Term(TWICE)), ("bind", None, (none, ("bind", None, (), none)), ("join", "f", (
            none,
            ("bind", None, (none, ("bind", None, (none,), ("join", "g", (none, none)))), ("join", "g", (none,) * 3)),
            none,
            EMPTY,
        ))))

    def test_labels_and_the_order_of_parts_stay(self):
        tree = ("join", "f", (("join", "g", ()), ("join", "h", (X,)), ("bind", "y", (("join", "k", ()),), EMPTY)))
        self.assert_same(shape_of(Term(tree)), ("join", "f", (
            ("join", "g", ()), ("join", "h", (("use", None),)), ("bind", None, (("join", "k", ()),), EMPTY),
        )))

    def test_the_term_stays(self):
        term = Term(TWICE)
        shape_of(term)
        self.assertEqual(term, Term(TWICE))

    def test_alike(self):
        def both(one, other):
            told = alike(Term(one), Term(other))
            self.assertIs(alike(Term(other), Term(one)), told)
            return told
        self.assertIs(both(PLAIN, ("bind", "y", (), Y)), True)
        self.assertIs(both(PLAIN, ("bind", "x", (), Y)), False)
        self.assertIs(both(PLAIN, ("bind", "x", (X,), X)), False)
        self.assertIs(both(X, Y), False)
        self.assertIs(both(X, X), True)
        self.assertIs(both(X, EMPTY), False)
        self.assertIs(both(EMPTY, ("join", "g", ())), False)
        self.assertIs(both(("bind", "x", (X,), X), ("bind", "y", (X,), Y)), True)
        self.assertIs(both(("bind", "x", (X,), X), ("bind", "y", (Y,), Y)), False)
        nested = ("bind", "x", (), ("bind", "y", (), ("join", "f", (X, Y))))
        self.assertIs(both(nested, ("bind", "y", (), ("bind", "x", (), ("join", "f", (Y, X))))), True)
        self.assertIs(both(nested, ("bind", "y", (), ("bind", "x", (), ("join", "f", (X, Y))))), False)
        self.assertIs(both(nested, ("bind", "x", (), ("bind", "x", (), ("join", "f", (X, X))))), False)

    def test_alike_by_the_same_binder_and_not_by_another_one_as_far_off(self):
        one = ("join", "f", (PLAIN, ("bind", "y", (), ("bind", "x", (), Y))))
        other = ("join", "f", (PLAIN, ("bind", "y", (), ("bind", "x", (), X))))
        self.assertIs(alike(Term(one), Term(other)), False)

    def test_alike_over_all_small_pairs(self):
        trees = [tree for size in range(1, 4) for tree in named_trees(size)]
        terms = [Term(tree) for tree in trees]
        told = [(shape_of(term), Walk(term).meant) for term in terms]
        for one, first in zip(terms, told):
            for other, second in zip(terms, told):
                self.assertIs(alike(one, other), first == second)


class TestWrongArguments(Checks):

    def test_no_term(self):
        for value in NO_TERMS:
            for call in [names_of, free_names, meaning, shape_of]:
                self.assert_error(NoTerm, value, call, value)
            for call in [binders_around, uses_of]:
                for number in [0, -1, True, None, value]:
                    self.assert_error(NoTerm, value, call, value, number)
            self.assert_error(NoTerm, value, alike, value, Term(X))
            self.assert_error(NoTerm, value, alike, Term(X), value)
            self.assert_error(NoTerm, value, alike, value, [])

    def test_no_node(self):
        for tree in [X, PLAIN, RICH, TWICE]:
            for index in no_numbers_below(len(Term(tree))):
                self.assert_error(NoNode, index, binders_around, Term(tree), index)

    def test_no_binder(self):
        for tree in [X, EMPTY, PLAIN, RICH, TWICE]:
            for binder in no_numbers_below(len(Term(tree).binders())):
                self.assert_error(NoBinder, binder, uses_of, Term(tree), binder)

    def test_the_number_of_a_node_is_not_that_of_a_binder(self):
        term = Term(("join", "f", (X, PLAIN)))
        self.assert_same(uses_of(term, 0), [1])
        self.assert_error(NoBinder, 2, uses_of, term, 2)

    def test_arguments_by_name(self):
        term = Term(TWICE)
        self.assertEqual(names_of(term=term), names_of(term))
        self.assertEqual(free_names(term=term), free_names(term))
        self.assertEqual(meaning(term=term), meaning(term))
        self.assertEqual(shape_of(term=term), shape_of(term))
        self.assertEqual(binders_around(index=10, term=term), [0, 3])
        self.assertEqual(uses_of(binder=0, term=term), [2, 3, 5, 10])
        self.assertIs(alike(other=term, one=term), True)
        self.assert_error(NoTerm, None, alike, other=True, one=None)

    def test_new_lists(self):
        term = Term(TWICE)
        self.assert_new_lists(free_names, term)
        self.assert_new_lists(meaning, term)
        self.assert_new_lists(binders_around, term, 10)
        self.assert_new_lists(uses_of, term, 0)


if __name__ == "__main__":
    unittest.main()
