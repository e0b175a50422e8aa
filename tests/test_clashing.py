"""Tests of livenames.clashing."""

import unittest

from livenames.clashing import clashes, do_clash, hurt, live_at
from livenames.errors import NoBinder, NoNames, NoTerm
from livenames.terms import Term
from livenames.walks import names_of
from livenames.writing import catches, is_right
from tests.checks import NO_TERMS, Checks, no_numbers_below
from tests.slow import Walk
from tests.trees import EMPTY, PLAIN, RICH, X, Y, drawn_terms, greatest_terms, small_terms, use_name

Z = ("use", "z")

# {x||{y||f(x,y,z)}}
PAIR = Term(("bind", "x", (), ("bind", "y", (), ("join", "f", (X, Y, Z)))))
# {x||f(x,{y||f(y,{z||f(x,z)})})}
STEPS = Term(("bind", "x", (), ("join", "f", (X, ("bind", "y", (), ("join", "f", (
    Y, ("bind", "z", (), ("join", "f", (X, Z))),
)))))))


def nested(names, uses):
    tree = ("join", "f", tuple(("use", name) for name in uses))
    for name in reversed(names):
        tree = ("bind", name, (), tree)
    return Term(tree)


class TestLive(Checks):

    def test_nested_binders(self):
        self.assert_same([live_at(PAIR, binder) for binder in range(2)], [["z"], [0, "z"]])
        self.assert_same([live_at(STEPS, binder) for binder in range(3)], [[], [0], [0]])
        told = [live_at(nested("abcd", "acd"), binder) for binder in range(4)]
        self.assert_same(told, [[], [0], [0], [0, 2]])

    def test_binders_then_free_names_in_order(self):
        term = nested("abc", ["zz", "c", "z", "b", "aaa", "a", "y", "aa", "z"])
        free = ["y", "z", "aa", "zz", "aaa"]
        self.assert_same([live_at(term, binder) for binder in range(3)], [free, [0, *free], [0, 1, *free]])

    def test_more_than_ten_binders_are_in_order_of_their_numbers(self):
        names = [use_name(number) for number in range(15)]
        self.assert_same(live_at(nested(names, names[::-1]), 14), list(range(14)))

    def test_uses_elsewhere_are_not_live(self):
        self.assert_same(live_at(Term(("join", "f", (Z, PLAIN, Y))), 0), [])
        self.assert_same(live_at(Term(("bind", "x", (Y, Z), X)), 0), [])
        behind = Term(("bind", "y", (), ("join", "f", (PLAIN, Y, Z))))
        self.assert_same([live_at(behind, 0), live_at(behind, 1)], [["z"], []])
        ahead = Term(("bind", "y", (), ("bind", "x", (Y, Z), X)))
        self.assert_same([live_at(ahead, 0), live_at(ahead, 1)], [["z"], []])

    def test_a_binder_is_not_live_at_itself_nor_at_one_around_it(self):
        self.assert_same(live_at(Term(PLAIN), 0), [])
        self.assert_same(live_at(Term(("bind", "y", (), PLAIN)), 0), [])

    def test_the_free_name_that_the_binder_has(self):
        self.assert_same(live_at(Term(("bind", "x", (), ("bind", "x", (X,), Y))), 0), ["y"])
        self.assert_same(live_at(Term(("bind", "x", (X,), ("bind", "y", (), X))), 1), [0])


class TestClashes(Checks):

    def test_clashes(self):
        self.assert_same(clashes(PAIR), [("z", 0), (0, 1), ("z", 1)])
        self.assert_same(clashes(STEPS), [(0, 1), (0, 2)])
        wanted = [("z", 0), (0, 1), ("z", 1), (0, 2), ("z", 2), (0, 3), (2, 3), ("z", 3)]
        self.assert_same(clashes(nested("abcd", "zadc")), wanted)
        for tree in [X, EMPTY, PLAIN, ("join", "f", (X, PLAIN)), ("bind", "x", (), EMPTY)]:
            self.assert_same(clashes(Term(tree)), [])

    def test_do_clash(self):
        self.assertIs(do_clash(PAIR, 0, 1), True)
        self.assertIs(do_clash(PAIR, 1, 0), True)
        told = [[do_clash(STEPS, one, other) for one in range(3)] for other in range(3)]
        self.assert_same(told, [[False, True, True], [True, False, False], [True, False, False]])

    def test_no_binder_clashes_with_itself(self):
        for term in [Term(PLAIN), PAIR, STEPS]:
            for binder in range(len(term.binders())):
                self.assertIs(do_clash(term, binder, binder), False)

    def test_binders_side_by_side_do_not_clash(self):
        for tree in [("join", "f", (PLAIN, PLAIN)), ("bind", "x", (PLAIN,), X)]:
            self.assertIs(do_clash(Term(tree), 0, 1), False)
            self.assertIs(do_clash(Term(tree), 1, 0), False)


class TestHurt(Checks):

    def test_hurt(self):
        self.assert_same(hurt(PAIR, ("a", "b")), [])
        self.assert_same(hurt(PAIR, ("a", "a")), [(0, 1)])
        self.assert_same(hurt(PAIR, ["z", "a"]), [("z", 0)])
        self.assert_same(hurt(PAIR, ["a", "z"]), [("z", 1)])
        self.assert_same(hurt(PAIR, ["z", "z"]), [("z", 0), (0, 1), ("z", 1)])
        self.assert_same(hurt(STEPS, ["a", "b", "b"]), [])
        self.assert_same(hurt(STEPS, ["b", "b", "b"]), [(0, 1), (0, 2)])
        self.assert_same(hurt(Term(X), []), [])

    def test_a_name_that_is_free_elsewhere_hurts_nothing(self):
        self.assert_same(hurt(Term(("join", "f", (Z, PLAIN))), ["z"]), [])

    def test_right_exactly_if_no_clash_is_hurt(self):
        for term in small_terms():
            walk = Walk(term)
            for names in walk.all_namings(["x", "z", "ab"] if len(walk.names) > 3 else ["x", "y", "z", "a"]):
                right = is_right(term, names)
                self.assertIs(hurt(term, names) == [], right, (term.tree(), names))
                self.assertIs(catches(term, names) == [], right, (term.tree(), names))

    def test_all_small_terms(self):
        for term in small_terms() + drawn_terms(100, 9) + tuple(greatest_terms()):
            walk = Walk(term)
            self.assert_same(clashes(term), walk.clashing)
            for other in list(walk.binders)[:5]:
                self.assert_same(live_at(term, other), walk.live_at(other))
                for one in list(walk.binders)[:5]:
                    self.assertIs(do_clash(term, one, other), walk.clash(one, other))
            for names in [["x"] * len(walk.names), ("z",) * len(walk.names), names_of(term)]:
                self.assert_same(hurt(term, names), walk.hurt(names))


class TestWrongArguments(Checks):

    def test_no_term(self):
        for value in NO_TERMS:
            self.assert_error(NoTerm, value, clashes, value)
            self.assert_error(NoTerm, value, live_at, value, 0)
            self.assert_error(NoTerm, value, live_at, value, None)
            self.assert_error(NoTerm, value, do_clash, value, 0, 0)
            self.assert_error(NoTerm, value, do_clash, value, None, True)
            self.assert_error(NoTerm, value, hurt, value, [])
            self.assert_error(NoTerm, value, hurt, value, None)

    def test_no_binder(self):
        for term in [Term(X), Term(PLAIN), PAIR, STEPS]:
            for value in no_numbers_below(len(term.binders())):
                self.assert_error(NoBinder, value, live_at, term, value)
                self.assert_error(NoBinder, value, do_clash, term, value, object())
        for value in no_numbers_below(2):
            self.assert_error(NoBinder, value, do_clash, PAIR, value, 0)
            self.assert_error(NoBinder, value, do_clash, PAIR, 0, value)
            self.assert_error(NoBinder, value, do_clash, PAIR, value, value)

    def test_no_names(self):
        for value in [None, True, "ab", [], ["a"], ("a", "b", "c"), ["a", None], ("a", "B"), {"a": 1, "b": 2}, PAIR]:
            self.assert_error(NoNames, value, hurt, PAIR, value)
        for value in [RICH, X, ["x"]]:
            self.assert_error(NoNames, value, hurt, Term(X), value)

    def test_arguments_by_name(self):
        self.assertEqual(live_at(binder=1, term=PAIR), [0, "z"])
        self.assertEqual(clashes(term=PAIR), clashes(PAIR))
        self.assertIs(do_clash(other=2, one=1, term=STEPS), False)
        self.assertIs(do_clash(other=2, one=0, term=STEPS), True)
        self.assertEqual(hurt(names=("a", "a"), term=PAIR), [(0, 1)])
        self.assert_error(NoBinder, None, do_clash, other=True, one=None, term=PAIR)

    def test_new_lists(self):
        self.assert_new_lists(live_at, PAIR, 1)
        self.assert_new_lists(clashes, PAIR)
        self.assert_new_lists(hurt, PAIR, ("z", "z"))


if __name__ == "__main__":
    unittest.main()
