"""Tests of livenames.terms."""

import itertools
import unittest
from unittest import mock

from livenames.errors import NoNames, NoNode, NoTerm, TooMany
from livenames.terms import Term, in_order, is_tree
from tests.trees import EMPTY, PLAIN, RICH, RICH_NODES, X, Y, all_trees, bound, deep, joined, met, most_on_a_way
from tests.values import NAMES, NO_NAMES, NO_TEXTS

# Each one is no tree because of its root.
NO_ROOTS = NO_TEXTS[:-1] + [
    "", "x", "use", "ux",
    (None,), ("use",), ("join",), ("bind",), ("join", "f"), ("bind", "x", ()), ("bind", "x", X),
    ("use", "x", ()), ("use", "x", "y"), ("join", "f", (), ()), ("bind", "x", (), X, X), ("bind", "x", (), X, ()),
    ("uses", "x"), ("Use", "x"), ("", "x"), ("leaf", "x"), (None, "x"), (0, "x"), (True, "x"), (b"use", "x"),
    (("use",), "x"), (["use"], "x"), ({}, "x"), ({"use"}, "x"), (X, "x"), (mock.ANY, "x"),
    (mock.ANY, "f", ()), (mock.ANY, "x", (), X), ("joins", "f", ()), ("binds", "x", (), X), (["join"], "f", ()),
    ("x", "use"), ("bind", "f", (X,)), ("use", "x", (), X), ("join", "x", (), X),
    ["use", "x"], ["join", "f", ()], ["bind", "x", (), X], {"use": "x"}, {0: "use", 1: "x"},
    ("join", "f", []), ("join", "f", [X]), ("join", "f", {}), ("join", "f", None), ("join", "f", "x"),
    ("join", "f", ""), ("join", "f", X), ("join", "f", 0), ("join", "f", {X: X}), ("join", "f", {X}),
    ("bind", "x", [], X), ("bind", "x", [X], X), ("bind", "x", None, X), ("bind", "x", X, X),
    ("bind", "x", "", X), ("bind", "x", {}, X), ("bind", "x", (), (X,)), ("bind", "x", (), [X]),
    ("bind", "x", (), None), ("bind", "x", X, ()), ("bind", "x", (), ()), ("bind", "x", (), "x"),
    ("bind", (), "x", X), ("bind", (), X), ("bind", None, (), X),
    Term(X), ("join", "f", (Term(X),)), ("bind", "x", (), Term(X)),
]


def with_bad_names():
    """Each kind of node, with what is no name in the place of its name."""
    for bad in NO_NAMES + NO_TEXTS:
        yield ("use", bad)
        yield ("join", bad, ())
        yield ("join", bad, (X,))
        yield ("bind", bad, (), X)


def around(bad):
    """Trees but for a bad one, at each kind of place."""
    return [
        ("join", "f", (bad,)),
        ("join", "f", (X, bad)),
        ("join", "f", (bad, X)),
        ("bind", "x", (bad,), X),
        ("bind", "x", (X, bad), X),
        ("bind", "x", (), bad),
        ("bind", "x", (X,), bad),
        ("join", "f", (("bind", "x", (), ("join", "g", (X, bad, X))),)),
        ("bind", "x", (("bind", "y", (("join", "g", (bad,)),), Y),), X),
    ]


def no_trees():
    roots = NO_ROOTS + list(with_bad_names())
    return roots + [tree for bad in roots for tree in around(bad)]


class TestIsTree(unittest.TestCase):

    def test_trees(self):
        for tree in [X, EMPTY, PLAIN, RICH] + RICH_NODES:
            self.assertIs(is_tree(tree), True, tree)
        for name in NAMES:
            for tree in [("use", name), ("join", name, ()), ("bind", name, (), X), ("bind", name, (X, Y, X), X)]:
                self.assertIs(is_tree(tree), True, tree)

    def test_all_small_trees(self):
        for tree in itertools.chain.from_iterable(all_trees(size) for size in range(1, 5)):
            self.assertIs(is_tree(tree), True, tree)

    def test_trees_beyond_the_limits(self):
        for tree in [joined(401), bound(61), deep(101), joined(2000), deep(200)]:
            self.assertIs(is_tree(tree), True)

    def test_no_trees(self):
        for value in no_trees():
            self.assertIs(is_tree(value), False, value)

    def test_argument_by_name(self):
        self.assertIs(is_tree(value=X), True)
        self.assertIs(is_tree(value=[X]), False)


class TestInOrder(unittest.TestCase):

    def test_fewer_letters_first_then_letters(self):
        self.assertEqual(in_order(["b", "aa", "a"]), ["a", "b", "aa"])
        self.assertEqual(in_order(("zz", "aaa", "b", "ab", "z")), ["b", "z", "ab", "zz", "aaa"])
        self.assertEqual(in_order(["zzzzzzzz", "aaaaaaaa", "zzzzzzz"]), ["zzzzzzz", "aaaaaaaa", "zzzzzzzz"])

    def test_each_order_of_the_same_names(self):
        for names in itertools.permutations(["a", "b", "ab", "ba", "aaa"]):
            self.assertEqual(in_order(names), ["a", "b", "ab", "ba", "aaa"])
            self.assertEqual(in_order(list(names)), ["a", "b", "ab", "ba", "aaa"])

    def test_each_name_once(self):
        self.assertEqual(in_order(["b", "a", "b", "aa", "b", "aa"]), ["a", "b", "aa"])
        self.assertEqual(in_order(("x", "x")), ["x"])

    def test_none(self):
        self.assertEqual(in_order([]), [])
        self.assertEqual(in_order(()), [])

    def test_always_a_new_list(self):
        names = ["a", "b"]
        told = in_order(names)
        self.assertIs(type(told), list)
        self.assertIs(type(in_order(("a",))), list)
        told.append("c")
        self.assertEqual(names, ["a", "b"])
        self.assertEqual(in_order(names), ["a", "b"])

    def test_the_list_handed_in_is_left_as_it_was(self):
        names = ["b", "a", "b"]
        in_order(names)
        self.assertEqual(names, ["b", "a", "b"])

    def test_no_names(self):
        wrong = [None, True, False, 0, 1, "", "a", "ab", {}, {"a": 1}, {"a"}, frozenset("a"), iter(["a"]), object()]
        for bad in NO_NAMES + NO_TEXTS:
            wrong += [[bad], (bad,), ["a", bad], (bad, "a"), ["a", bad, "b"]]
        for value in wrong:
            with self.assertRaises(NoNames, msg=value) as caught:
                in_order(value)
            self.assertIs(caught.exception.names, value)

    def test_argument_by_name(self):
        self.assertEqual(in_order(names=["b", "a"]), ["a", "b"])
        with self.assertRaises(NoNames):
            in_order(names=None)


class TestTermErrors(unittest.TestCase):

    def assert_no_term(self, value):
        with self.assertRaises(NoTerm, msg=value) as caught:
            Term(value)
        self.assertIs(caught.exception.told, value)

    def assert_too_many(self, most, tree):
        with self.assertRaises(TooMany) as caught:
            Term(tree)
        self.assertEqual(caught.exception.most, most)

    def test_no_tree(self):
        for value in no_trees():
            self.assert_no_term(value)

    def test_no_tree_comes_ahead_of_too_many(self):
        for bad in [None, "x", ("use", "X"), ["use", "x"]]:
            self.assert_no_term(("join", "f", (X,) * 500 + (bad,)))
            self.assert_no_term(bound(70, bad))
            self.assert_no_term(("join", "f", (deep(150), bad)))

    def test_nodes(self):
        self.assertEqual(len(Term(joined(400))), 400)
        self.assert_too_many(400, joined(401))
        self.assert_too_many(400, joined(2000))
        self.assert_too_many(400, ("bind", "x", (X,) * 399, X))
        self.assertEqual(len(Term(("bind", "x", (X,) * 398, X))), 400)

    def test_binders(self):
        self.assertEqual(len(Term(bound(60)).binders()), 60)
        self.assert_too_many(60, bound(61))
        self.assertEqual(len(Term(("join", "f", (PLAIN,) * 60)).binders()), 60)
        self.assert_too_many(60, ("join", "f", (PLAIN,) * 61))
        self.assert_too_many(60, ("bind", "x", (PLAIN,) * 60, X))

    def test_nodes_on_a_way(self):
        self.assertEqual(Term(deep(100)).depth(), 100)
        self.assert_too_many(100, deep(101))
        self.assert_too_many(100, deep(200))
        self.assertEqual(Term(("bind", "x", (deep(99),), X)).depth(), 100)
        self.assert_too_many(100, ("bind", "x", (deep(100),), X))
        self.assert_too_many(100, ("bind", "x", (X, deep(100), X), X))
        self.assert_too_many(100, ("bind", "x", (X,), deep(100)))
        self.assert_too_many(100, ("join", "f", (X, EMPTY, deep(100), X)))

    def test_all_limits_at_once_are_kept(self):
        way = bound(60, deep(40))
        term = Term(("join", "f", (way[3],) + (X,) * 300))
        self.assertEqual((len(term), term.depth(), len(term.binders())), (400, 100, 59))
        Term(("bind", "x", (X,) * 300, way[3]))

    def test_which_limit_comes_first(self):
        self.assert_too_many(400, ("join", "f", (bound(61),) + (X,) * 400))
        self.assert_too_many(400, ("join", "f", (deep(101),) + (X,) * 400))
        self.assert_too_many(400, ("join", "f", (bound(150),) + (X,) * 400))
        self.assert_too_many(60, bound(61, deep(100)))
        self.assert_too_many(60, bound(61, ("join", "f", (deep(100),) + (X,) * 238)))

    def test_made_by_name(self):
        self.assertEqual(Term(tree=X), Term(X))
        with self.assertRaises(NoTerm):
            Term(tree=None)


class TestTerm(unittest.TestCase):

    def test_what_a_rich_term_tells(self):
        term = Term(RICH)
        self.assertEqual(term.tree(), RICH)
        self.assertEqual(len(term), 17)
        self.assertEqual(term.listed(), RICH_NODES)
        self.assertEqual(list(term), RICH_NODES)
        self.assertEqual([term[index] for index in range(17)], RICH_NODES)
        self.assertEqual(term.binders(), [1, 6, 8, 12])
        self.assertEqual(term.uses(), [3, 4, 7, 10, 11, 13, 15, 16])
        self.assertEqual(term.depth(), 5)

    def test_what_terms_of_one_node_tell(self):
        for tree, uses in [(X, [0]), (EMPTY, [])]:
            term = Term(tree)
            told = (term.tree(), len(term), list(term), term.binders(), term.uses(), term.depth())
            self.assertEqual(told, (tree, 1, [tree], [], uses, 1))

    def test_what_all_small_terms_tell(self):
        for tree in itertools.chain.from_iterable(all_trees(size) for size in range(1, 6)):
            term = Term(tree)
            nodes = met(tree)
            numbers = range(len(nodes))
            self.assertEqual(term.tree(), tree)
            self.assertEqual(len(term), len(nodes))
            self.assertEqual(list(term), nodes)
            self.assertEqual(term.listed(), nodes)
            self.assertEqual([term[index] for index in numbers], nodes)
            self.assertEqual(term.binders(), [index for index in numbers if nodes[index][0] == "bind"])
            self.assertEqual(term.uses(), [index for index in numbers if nodes[index][0] == "use"])
            self.assertEqual(term.depth(), most_on_a_way(tree))

    def test_a_number_of_no_node(self):
        for tree in [X, PLAIN, RICH]:
            term = Term(tree)
            wrong = [-1, -len(term), len(term), len(term) + 1, 10 ** 50, True, False, None, "", "0", "x", 0.0, 1.0]
            for index in wrong + [b"0", (), (0,), [0], {}, {0}, slice(0, 1), object(), tree, term]:
                with self.assertRaises(NoNode, msg=index) as caught:
                    term[index]
                self.assertIs(caught.exception.index, index)

    def test_in(self):
        term = Term(RICH)
        for node in RICH_NODES:
            self.assertIs(node in term, True)
        for tree in [("use", "top"), ("use", "f"), ("join", "none", (X,)), PLAIN, ("bind", "z", (), X)]:
            self.assertIs(tree in term, False, tree)
        for tree in all_trees(1) + all_trees(2):
            self.assertIs(tree in term, tree in RICH_NODES, tree)

    def test_in_with_any_value(self):
        term = Term(RICH)
        no_texts = [None, True, 0, 1, b"x", [], (), {}, {"x"}, list(X), list(RICH), term, Term(X), mock.ANY]
        for value in ["x", "top"] + no_texts:
            self.assertIs(value in term, False, value)
        for value in no_trees():
            self.assertIs(value in term, False, value)
        self.assertIs((mock.ANY, "x") in term, False)
        self.assertIs(joined(2000) in term, False)
        self.assertIs(deep(200) in Term(deep(100)), False)
        self.assertIs(deep(99) in Term(deep(100)), True)

    def test_iterated_over_again_and_within_itself(self):
        term = Term(PLAIN)
        self.assertEqual([(one, other) for one in term for other in term], [
            (PLAIN, PLAIN), (PLAIN, X), (X, PLAIN), (X, X),
        ])
        first, second = term
        self.assertEqual((first, second), (PLAIN, X))

    def test_equality_with_terms(self):
        trees = [tree for size in range(1, 4) for tree in all_trees(size)]
        for one in trees:
            for other in trees:
                self.assertIs(Term(one) == Term(other), one == other)
                self.assertIs(Term(one) != Term(other), one != other)
        self.assertIs(Term(deep(100)) == Term(deep(100)), True)
        self.assertIs(Term(PLAIN) == Term(("bind", "y", (), Y)), False)

    def test_equality_with_other_values(self):
        for tree in [X, EMPTY, PLAIN, RICH]:
            term = Term(tree)
            for value in [tree, list(tree), term.listed(), None, True, 0, 1, "x", (), [], {}, object(), len(term)]:
                self.assertIs(term == value, False, value)
                self.assertIs(value == term, False, value)
                self.assertIs(term != value, True, value)

    def test_every_told_list_is_a_new_one(self):
        term = Term(RICH)
        for told in [term.listed, term.binders, term.uses]:
            self.assertIs(type(told()), list)
            kept = told()
            self.assertIsNot(told(), kept)
            kept.clear()
            self.assertNotEqual(told(), [])
            told().append(None)
            self.assertNotIn(None, told())
        self.assertEqual(list(term), RICH_NODES)
        self.assertEqual(len(term), 17)
        self.assertEqual(term[1], RICH_NODES[1])
        self.assertEqual(term, Term(RICH))

    def test_number_of_a_binder_differs_from_that_of_its_node(self):
        term = Term(("join", "f", (X, PLAIN, PLAIN)))
        self.assertEqual(term.binders(), [2, 4])
        self.assertEqual(term.uses(), [1, 3, 5])


class TestMadeOfParts(unittest.TestCase):

    def assert_no_term(self, tree, made, *arguments):
        with self.assertRaises(NoTerm, msg=tree) as caught:
            made(*arguments)
        self.assertEqual(caught.exception.told, tree)
        self.assertIs(type(caught.exception.told), tuple)

    def assert_too_many(self, most, made, *arguments):
        with self.assertRaises(TooMany) as caught:
            made(*arguments)
        self.assertEqual(caught.exception.most, most)

    def test_of_use(self):
        for name in NAMES:
            self.assertEqual(Term.of_use(name).tree(), ("use", name))
        self.assertEqual(Term.of_use(name="x"), Term(X))

    def test_of_join(self):
        self.assertEqual(Term.of_join("f").tree(), EMPTY)
        self.assertEqual(Term.of_join(label="f").tree(), EMPTY)
        self.assertEqual(Term.of_join("f", X).tree(), ("join", "f", (X,)))
        self.assertEqual(Term.of_join("f", Term(X)).tree(), ("join", "f", (X,)))
        self.assertEqual(Term.of_join("g", X, Term(PLAIN), Y, Term(RICH)).tree(), ("join", "g", (X, PLAIN, Y, RICH)))

    def test_of_bind(self):
        self.assertEqual(Term.of_bind("x", X).tree(), PLAIN)
        self.assertEqual(Term.of_bind("x", Term(X)).tree(), PLAIN)
        self.assertEqual(Term.of_bind(name="x", body=X).tree(), PLAIN)
        self.assertEqual(Term.of_bind(body=Term(X), name="x").tree(), PLAIN)
        self.assertEqual(Term.of_bind("z", X, Y).tree(), ("bind", "z", (Y,), X))
        made = Term.of_bind("z", Term(PLAIN), Term(Y), X, Term(EMPTY))
        self.assertEqual(made.tree(), ("bind", "z", (Y, X, EMPTY), PLAIN))

    def test_made_are_terms(self):
        for term in [Term.of_use("x"), Term.of_join("f", X), Term.of_bind("x", X)]:
            self.assertIs(type(term), Term)

    def test_the_terms_handed_in_are_left_as_they_were(self):
        one, other = Term(X), Term(PLAIN)
        Term.of_bind("y", one, other)
        Term.of_join("f", one, other)
        self.assertEqual((one.tree(), other.tree()), (X, PLAIN))

    def test_bad_names(self):
        for bad in NO_NAMES + NO_TEXTS:
            self.assert_no_term(("use", bad), Term.of_use, bad)
            self.assert_no_term(("join", bad, ()), Term.of_join, bad)
            self.assert_no_term(("join", bad, (X, PLAIN)), Term.of_join, bad, X, Term(PLAIN))
            self.assert_no_term(("bind", bad, (), X), Term.of_bind, bad, X)
            self.assert_no_term(("bind", bad, (Y,), X), Term.of_bind, bad, Term(X), Term(Y))

    def test_bad_parts(self):
        for bad in [None, True, 0, "x", (), [X], ["use", "x"], {}, ("use", "X"), ("join", "f", [X]), object()]:
            self.assert_no_term(("join", "f", (bad,)), Term.of_join, "f", bad)
            self.assert_no_term(("join", "f", (X, bad, Y)), Term.of_join, "f", Term(X), bad, Y)
            self.assert_no_term(("bind", "x", (), bad), Term.of_bind, "x", bad)
            self.assert_no_term(("bind", "x", (X,), bad), Term.of_bind, "x", bad, Term(X))
            self.assert_no_term(("bind", "x", (bad,), X), Term.of_bind, "x", X, bad)
            self.assert_no_term(("bind", "x", (Y, bad), X), Term.of_bind, "x", Term(X), Term(Y), bad)

    def test_a_list_of_parts_is_no_part(self):
        self.assert_no_term(("join", "f", ([X, Y],)), Term.of_join, "f", [X, Y])
        self.assert_no_term(("join", "f", ((X, Y),)), Term.of_join, "f", (X, Y))

    def test_a_term_within_a_tree_is_no_tree(self):
        tree = ("join", "g", (Term(X),))
        self.assert_no_term(("join", "f", (tree,)), Term.of_join, "f", tree)

    def test_limits(self):
        self.assertEqual(len(Term.of_join("f", *[X] * 399)), 400)
        self.assert_too_many(400, Term.of_join, "f", *[X] * 400)
        self.assert_too_many(400, Term.of_join, "f", Term(joined(400)))
        self.assertEqual(len(Term.of_bind("x", X, *[Y] * 398)), 400)
        self.assert_too_many(400, Term.of_bind, "x", X, *[Y] * 399)
        self.assertEqual(len(Term.of_bind("x", bound(59)).binders()), 60)
        self.assert_too_many(60, Term.of_bind, "x", Term(bound(60)))
        self.assert_too_many(60, Term.of_bind, "x", X, bound(60))
        self.assert_too_many(60, Term.of_join, "f", bound(30), Term(bound(31)))
        self.assertEqual(Term.of_join("f", X, deep(99)).depth(), 100)
        self.assert_too_many(100, Term.of_join, "f", X, Term(deep(100)))
        self.assert_too_many(100, Term.of_bind, "x", X, deep(100))

    def test_no_tree_comes_ahead_of_too_many(self):
        tree = ("join", "f", (X,) * 400 + (None,))
        self.assert_no_term(tree, Term.of_join, "f", *[X] * 400, None)
        self.assert_no_term(("bind", "X", (), bound(60)), Term.of_bind, "X", Term(bound(60)))


if __name__ == "__main__":
    unittest.main()
