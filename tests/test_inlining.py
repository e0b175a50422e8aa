"""Tests of livenames.inlining."""

import unittest

from livenames.errors import NoBinder, NoTerm, TooMany
from livenames.inlining import can_inline, inline, inline_catches, inline_renamed
from livenames.terms import Term
from livenames.walks import meaning, names_of, shape_of
from tests.checks import NO_TERMS, Checks, no_numbers_below
from tests.linked import inline_slowly
from tests.trees import EMPTY, PLAIN, RICH, X, Y, bound, deep, drawn_terms, joined, named_trees, nested_terms, small_terms

A = ("use", "a")
Z = ("use", "z")

# The example of the document: {x|y|f(x,{y||g(x,y)})}.
EXAMPLE = Term(("bind", "x", (Y,), ("join", "f", (X, ("bind", "y", (), ("join", "g", (X, Y)))))))


def terms_with_ahead_ones():
    """Small terms whose root has ahead ones with free names, with binders, and with uses of its own name."""
    bodies = [Term(tree).tree() for size in range(1, 4) for tree in named_trees(size)]
    bodies += [term.tree() for term in nested_terms()[::40]]
    ahead = [X, Y, EMPTY, PLAIN, ("bind", "y", (), X), ("bind", "x", (), ("join", "g", (X, Y))),
             ("bind", "y", (X,), ("join", "g", (X, Y, Z)))]
    found = []
    for place, body in enumerate(bodies):
        first, other = ahead[place % len(ahead)], ahead[(place // 2) % len(ahead)]
        for name in ["x", "y"]:
            found.append(Term(("bind", name, (first,), body)))
        found.append(Term(("bind", "z", (), ("bind", "x", (first, other), ("join", "h", (body, X))))))
    return found


class TestCanInline(Checks):

    def test_ahead_terms(self):
        told = [can_inline(Term(RICH), binder) for binder in range(4)]
        self.assert_same(told, [False, True, True, False])
        self.assertIs(can_inline(EXAMPLE, 0), True)
        self.assertIs(can_inline(EXAMPLE, 1), False)

    def test_all_small_terms(self):
        for term in small_terms()[::3]:
            for binder, index in enumerate(term.binders()):
                self.assertIs(can_inline(term, binder), term[index][2] != ())


class TestInline(Checks):

    def assert_inline(self, wanted, renamed, caught, tree, binder):
        term = Term(tree)
        told = inline(term, binder)
        self.assertIs(type(told), Term)
        self.assertEqual(told.tree(), wanted)
        self.assert_same(inline_renamed(term, binder), renamed)
        self.assert_same(inline_catches(term, binder), caught)

    def test_the_example(self):
        wanted = ("join", "f", (Y, ("bind", "a", (), ("join", "g", (Y, A)))))
        self.assert_inline(wanted, [0], [(1, 0, "y")], EXAMPLE.tree(), 0)

    def test_no_uses(self):
        self.assert_inline(Y, [], [], ("bind", "x", (Z,), Y), 0)
        self.assert_inline(EMPTY, [], [], ("bind", "x", (PLAIN, Y), EMPTY), 0)
        # A use of the binder's name that means another one.
        self.assert_inline(PLAIN, [], [], ("bind", "x", (Z,), PLAIN), 0)
        self.assert_inline(("bind", "x", (Z,), X), [], [], ("bind", "x", (Y,), ("bind", "x", (Z,), X)), 0)

    def test_one_and_several_uses(self):
        self.assert_inline(Z, [], [], ("bind", "x", (Z,), X), 0)
        self.assert_inline(("join", "f", (Z, Y, Z)), [], [], ("bind", "x", (Z,), ("join", "f", (X, Y, X))), 0)

    def test_uses_that_mean_another_one_stay(self):
        tree = ("bind", "x", (Z,), ("join", "f", (X, PLAIN, ("bind", "y", (X,), X))))
        wanted = ("join", "f", (Z, PLAIN, ("bind", "y", (Z,), Z)))
        self.assert_inline(wanted, [], [], tree, 0)

    def test_the_first_one_of_several_ahead_terms(self):
        self.assert_inline(("join", "f", (Z, Y)), [], [], ("bind", "x", (Z, PLAIN, A), ("join", "f", (X, Y))), 0)
        self.assert_inline(PLAIN, [], [], ("bind", "x", (PLAIN, Z), X), 0)

    def test_a_use_of_its_own_name_in_the_ahead_term(self):
        self.assert_inline(X, [], [], ("bind", "x", (X,), X), 0)
        self.assert_inline(("bind", "x", (), ("join", "f", (X, Y))), [], [],
                           ("bind", "x", (), ("bind", "x", (X,), ("join", "f", (X, Y)))), 1)

    def test_a_binder_within_the_body_that_would_catch(self):
        self.assert_inline(("bind", "a", (), Y), [0], [(0, 0, "y")], ("bind", "x", (Y,), ("bind", "y", (), X)), 0)
        # What the copy means is bound.
        tree = ("bind", "y", (), ("bind", "x", (Y,), ("bind", "y", (), ("join", "f", (X, Y)))))
        self.assert_inline(("bind", "a", (), ("bind", "y", (), ("join", "f", (A, Y)))), [0], [(0, 1, 0)], tree, 1)

    def test_binders_in_the_copies(self):
        ahead = ("bind", "y", (), ("join", "g", (Y, Z)))
        tree = ("bind", "x", (ahead,), ("join", "f", (X, X)))
        self.assert_inline(("join", "f", (ahead, ahead)), [], [], tree, 0)
        # In the second copy alone a binder is renamed: what it means is z of the binder around it.
        tree = ("bind", "x", (ahead,), ("join", "f", (X, ("bind", "z", (), ("join", "h", (X, Z))))))
        wanted = ("join", "f", (ahead, ("bind", "a", (), ("join", "h", (ahead, A)))))
        self.assert_inline(wanted, [1], [(3, 1, "z")], tree, 0)

    def test_each_copy_has_binders_of_its_own(self):
        ahead = ("bind", "y", (), ("join", "g", (Y,)))
        tree = ("bind", "x", (ahead,), ("bind", "y", (), ("join", "f", (X, X, Y))))
        wanted = ("bind", "y", (), ("join", "f", (ahead, ahead, Y)))
        self.assert_inline(wanted, [], [], tree, 0)
        told = inline(Term(tree), 0)
        self.assert_same((len(told.binders()), meaning(told)), (3, [1, 2, 0]))

    def test_inner_binders(self):
        tree = ("join", "f", (("bind", "x", (Y,), X), ("bind", "y", (X,), ("bind", "x", (Y,), X))))
        self.assert_inline(("join", "f", (Y, tree[2][1])), [], [], tree, 0)
        self.assert_inline(("join", "f", (tree[2][0], ("bind", "x", (X,), X))), [], [], tree, 1)
        self.assert_inline(("join", "f", (tree[2][0], ("bind", "y", (X,), Y))), [], [], tree, 2)

    def test_new_names_are_neither_free_nor_old(self):
        tree = ("bind", "b", (Y,), ("bind", "y", (), ("join", "f", (("use", "b"), A))))
        self.assert_inline(("bind", "b", (), ("join", "f", (Y, A))), [0], [(0, 0, "y")], tree, 0)

    def test_all_small_terms(self):
        tried = 0
        for term in terms_with_ahead_ones() + list(small_terms()) + list(drawn_terms(300, 9)) + [Term(RICH)]:
            for binder in range(len(term.binders())):
                if can_inline(term, binder):
                    made = inline_slowly(term.tree(), binder)
                    told = inline(term, binder)
                    self.assertEqual(told, made.term())
                    self.assert_same(inline_renamed(term, binder), made.renamed())
                    self.assert_same(inline_catches(term, binder), made.catches())
                    self.assert_same(meaning(told), made.walk.meant)
                    self.assert_same(shape_of(told), shape_of(made.own_term))
                    renamed = [number for number, name in enumerate(names_of(told)) if name != made.old[number]]
                    self.assert_same(renamed, made.renamed())
                    tried += 1
        self.assertGreater(tried, 1000)

    def test_no_fewer_binders_renamed_would_do(self):
        tried = 0
        for term in terms_with_ahead_ones()[::2] + list(drawn_terms(300, 4)):
            for binder in range(len(term.binders())):
                made = inline_slowly(term.tree(), binder) if can_inline(term, binder) else None
                if made and 1 <= len(made.old) <= 3:
                    self.assertEqual(len(inline_renamed(term, binder)), made.fewest_renamed())
                    tried += 1
        self.assertGreater(tried, 200)


class TestLimits(Checks):

    def assert_too_many(self, most, tree):
        term = Term(tree)
        self.assertIs(can_inline(term, 0), True)
        for call in [inline, inline_renamed, inline_catches]:
            with self.assertRaises(TooMany) as caught:
                call(term, 0)
            self.assert_same(caught.exception.most, most)

    def test_nodes(self):
        told = inline(Term(("bind", "x", (joined(21),), ("join", "f", (X,) * 19))), 0)
        self.assertEqual(len(told), 400)
        self.assert_too_many(400, ("bind", "x", (joined(20),), ("join", "f", (X,) * 20)))
        self.assert_too_many(400, ("bind", "x", (joined(199),), ("join", "f", (X,) * 199)))
        # The ahead terms go.
        told = inline(Term(("bind", "x", (Y, joined(390)), ("join", "f", (X,) * 5))), 0)
        self.assertEqual(len(told), 6)

    def test_binders(self):
        told = inline(Term(("bind", "x", (bound(20),), ("join", "f", (X,) * 3))), 0)
        self.assertEqual(len(told.binders()), 60)
        self.assert_too_many(60, ("bind", "x", (bound(20),), ("join", "f", (X, ("bind", "y", (), X), X))))
        self.assert_too_many(60, ("bind", "x", (bound(59),), ("join", "f", (X, X))))

    def test_nodes_on_a_way(self):
        self.assertEqual(inline(Term(("bind", "x", (deep(51),), deep(50))), 0).depth(), 100)
        self.assert_too_many(100, ("bind", "x", (deep(52),), deep(50)))

    def test_which_limit_comes_first(self):
        self.assert_too_many(400, ("bind", "x", (bound(59, ("join", "f", (X,) * 150)),), ("join", "f", (X,) * 180)))
        self.assert_too_many(60, ("bind", "x", (bound(50),), ("join", "f", (X, X))))
        self.assert_too_many(60, ("bind", "x", (bound(35, deep(30)),), ("join", "f", (deep(50), X))))

    def test_the_greatest_outcomes(self):
        uses = ("join", "f", (X,) * 18)
        for _ in range(58):
            uses = ("bind", "y", (), uses)
        term = Term(("bind", "x", (("join", "g", (Y, X, Z) + (Y,) * 14),), uses))
        made = inline_slowly(term.tree(), 0)
        self.assertEqual(inline(term, 0), made.term())
        self.assert_same(inline_renamed(term, 0), made.renamed())
        self.assert_same(inline_catches(term, 0), made.catches())


class TestArguments(Checks):

    def test_no_term(self):
        for value in NO_TERMS:
            for call in [can_inline, inline, inline_renamed, inline_catches]:
                for binder in [0, None, True]:
                    self.assert_error(NoTerm, value, call, value, binder)

    def test_no_binder(self):
        for call in [can_inline, inline, inline_renamed, inline_catches]:
            for term in [Term(X), Term(("bind", "x", (Y,), X)), EXAMPLE, Term(RICH)]:
                for binder in no_numbers_below(len(term.binders())):
                    self.assert_error(NoBinder, binder, call, term, binder)

    def test_a_binder_without_an_ahead_term(self):
        for call in [inline, inline_renamed, inline_catches]:
            self.assert_error(NoBinder, 1, call, EXAMPLE, 1)
            self.assert_error(NoBinder, 0, call, Term(PLAIN), 0)
            for binder in [0, 3]:
                self.assert_error(NoBinder, binder, call, Term(RICH), binder)
        self.assertIs(can_inline(Term(PLAIN), 0), False)

    def test_the_number_of_a_node_is_not_that_of_a_binder(self):
        term = Term(("join", "f", (X, ("bind", "x", (Y,), X))))
        self.assert_error(NoBinder, 2, inline, term, 2)
        self.assertEqual(inline(term, 0).tree(), ("join", "f", (X, Y)))

    def test_by_name(self):
        self.assertIs(can_inline(binder=0, term=EXAMPLE), True)
        self.assertEqual(inline(binder=0, term=EXAMPLE), inline(EXAMPLE, 0))
        self.assertEqual(inline_renamed(binder=0, term=EXAMPLE), [0])
        self.assertEqual(inline_catches(binder=0, term=EXAMPLE), [(1, 0, "y")])
        self.assert_error(NoTerm, None, inline, binder=None, term=None)

    def test_new_lists(self):
        self.assert_new_lists(inline_renamed, EXAMPLE, 0)
        self.assert_new_lists(inline_catches, EXAMPLE, 0)

    def test_the_term_stays(self):
        term = Term(RICH)
        for call in [inline, inline_renamed, inline_catches]:
            call(term, 1)
        self.assertEqual(term.tree(), RICH)


if __name__ == "__main__":
    unittest.main()
