"""Tests of livenames.counting."""

import itertools
import unittest

from livenames.counting import all_namings, how_many, is_pool, naming_at, number_of
from livenames.errors import NoNames, NoNumber, NoPool, NoTerm
from livenames.terms import Term
from livenames.walks import free_names, names_of
from livenames.writing import is_right
from tests.checks import NO_TERMS, Checks, no_numbers_below
from tests.slow import Walk
from tests.trees import EMPTY, PLAIN, X, Y, drawn_terms, greatest_terms, nested_terms, small_terms, use_name
from tests.values import NO_NAMES, NO_TEXTS

Z = ("use", "z")

# The example of the document: {x||f(x,{y||f(y,{z||f(x,z)})})}.
STEPS = Term(("bind", "x", (), ("join", "f", (X, ("bind", "y", (), ("join", "f", (
    Y, ("bind", "z", (), ("join", "f", (X, Z))),
)))))))
# {x||{y||f(x,y,z)}}
PAIR = Term(("bind", "x", (), ("bind", "y", (), ("join", "f", (X, Y, Z)))))

SIXTY = [use_name(number) for number in range(60)]

NO_POOLS = [
    None, True, False, 0, 3, "", "abc", b"abc", {}, {"a": 1}, set(), {"a", "b"}, object(), iter(["a"]), range(3),
    ["a", "a"], ("a", "b", "a"), SIXTY + ["zz"], tuple(SIXTY + ["zz"]), SIXTY + ["aa"], [["a"]], [("a", "b")],
    [{"a": 1}, {"a": 1}], PAIR, PAIR.tree(),
] + [pool for bad in NO_NAMES + NO_TEXTS for pool in [[bad], ("a", bad), [bad, "a", "b"]]]


class TestIsPool(Checks):

    def test_pools(self):
        for pool in [[], (), ["a"], ("a",), ["b", "a"], ("x", "yy", "abcdefgh"), SIXTY, tuple(SIXTY), SIXTY[:59]]:
            self.assertIs(is_pool(pool), True, pool)

    def test_no_pools(self):
        for value in NO_POOLS:
            self.assertIs(is_pool(value), False, value)


class TestHowMany(Checks):

    def test_the_example(self):
        pool = ["a", "b", "c"]
        self.assert_same(how_many(STEPS, pool), 12)
        self.assert_same(naming_at(STEPS, pool, 5), ("b", "a", "c"))
        self.assert_same(number_of(STEPS, pool, ("b", "a", "a")), 4)

    def test_pools_of_none_and_one(self):
        for pool in [[], ()]:
            self.assert_same(how_many(Term(PLAIN), pool), 0)
            self.assert_same(how_many(Term(X), pool), 1)
            self.assert_same(how_many(STEPS, pool), 0)
            self.assert_same(list(all_namings(Term(X), pool)), [()])
            self.assert_same(list(all_namings(Term(PLAIN), pool)), [])
        self.assert_same(how_many(Term(PLAIN), ["a"]), 1)
        self.assert_same(how_many(STEPS, ["a"]), 0)
        self.assert_same(list(all_namings(Term(PLAIN), ("a",))), [("a",)])
        self.assert_same(list(all_namings(STEPS, ["a"])), [])

    def test_no_binders(self):
        for pool in [[], ["a"], ["x"], SIXTY]:
            for tree in [X, EMPTY]:
                self.assert_same(how_many(Term(tree), pool), 1)
                self.assert_same(naming_at(Term(tree), pool, 0), ())
                self.assert_same(number_of(Term(tree), pool, []), 0)

    def test_free_names_in_the_pool_and_not(self):
        self.assert_same(how_many(PAIR, ["a", "b", "c"]), 6)
        self.assert_same(how_many(PAIR, ["a", "b", "z"]), 2)
        self.assert_same(how_many(PAIR, ["a", "z"]), 0)
        self.assert_same(how_many(PAIR, ["a", "b"]), 2)
        # Free and not live at the binder.
        beside = Term(("join", "f", (Z, PLAIN)))
        self.assert_same(how_many(beside, ["a", "z"]), 2)
        self.assert_same(list(all_namings(beside, ["z", "a"])), [("z",), ("a",)])

    def test_fewer_names_than_are_live_twice_over(self):
        # Two binders that each lack more than one name make no number of namings above 0.
        deep = ("bind", "x", (), ("bind", "y", (), ("bind", "w", (), ("join", "f", (X, Y, Z)))))
        self.assert_same(how_many(Term(("join", "f", (deep, deep))), ["z"]), 0)
        self.assert_same(how_many(Term(("join", "f", (deep, deep))), []), 0)
        self.assert_same(list(all_namings(Term(("join", "f", (deep, deep))), ["z"])), [])

    def test_sixty_names(self):
        self.assert_same(how_many(STEPS, SIXTY), 60 * 59 * 59)
        self.assert_same(how_many(PAIR, tuple(SIXTY)), 60 * 59)


class TestNamings(Checks):

    def test_in_the_order_of_the_pool(self):
        self.assert_same(list(all_namings(PAIR, ["b", "c", "a"])), [
            ("b", "c"), ("b", "a"), ("c", "b"), ("c", "a"), ("a", "b"), ("a", "c"),
        ])

    def test_all_small_terms(self):
        for term in small_terms()[::3] + nested_terms()[::20] + drawn_terms(300, 4)[::4]:
            walk = Walk(term)
            for pool in [["z", "b", "x", "a"], ("a", "ab", "y"), ["x", "y"], ["z"], []]:
                wanted = walk.right_namings(pool)
                self.assert_same(list(all_namings(term, pool)), wanted)
                self.assert_same(how_many(term, pool), len(wanted))
                for number, naming in enumerate(wanted):
                    self.assert_same(naming_at(term, pool, number), naming)
                    self.assert_same(number_of(term, pool, naming), number)
                for number in [len(wanted), -1]:
                    self.assert_error(NoNumber, number, naming_at, term, pool, number)

    def test_namings_handed_in_as_lists(self):
        self.assert_same(number_of(PAIR, ("a", "b", "c"), ["b", "c"]), 3)
        self.assert_same(number_of(PAIR, ["a", "b", "c"], ("b", "c")), 3)

    def test_a_pool_is_copied(self):
        pool = ["a", "b", "c"]
        namings = all_namings(PAIR, pool)
        self.assertEqual(next(namings), ("a", "b"))
        self.assertEqual(pool, ["a", "b", "c"])
        self.assertEqual(len(list(namings)), 5)
        self.assertEqual(len(list(all_namings(PAIR, pool))), 6)


class TestGreatTerms(Checks):

    def test_far_too_many_to_go_through(self):
        term = greatest_terms()[1]
        many = 60 ** 60
        pool = ["q" + name[0] * 2 + name[1] for name in SIXTY]
        self.assert_same(how_many(term, pool), many)
        for number in [0, 1, 59, 60, 10 ** 50, many // 3, many - 2, many - 1]:
            naming = naming_at(term, pool, number)
            self.assertIs(is_right(term, naming), True)
            self.assertEqual(number_of(term, pool, naming), number)
        self.assertEqual(naming_at(term, pool, many - 1), (pool[-1],) * 60)
        self.assertEqual(naming_at(term, pool, 61), (pool[0],) * 58 + (pool[1], pool[1]))
        self.assert_error(NoNumber, many, naming_at, term, pool, many)

    def test_all_greatest_terms(self):
        for term in greatest_terms():
            pool = [name for name in names_of(term) if name not in free_names(term)]
            pool = list(dict.fromkeys(pool)) + ["p" + name + "q" for name in SIXTY]
            pool = pool[:60]
            many = how_many(term, pool)
            self.assertGreater(many, 0)
            for number in {0, 1 % many, many // 7, many - 1}:
                naming = naming_at(term, pool, number)
                self.assertIs(is_right(term, naming), True)
                self.assertEqual(number_of(term, pool, naming), number)
            first = list(itertools.islice(all_namings(term, pool), 20))
            self.assertEqual(first, [naming_at(term, pool, number) for number in range(min(20, many))])

    def test_none_from_too_small_a_pool(self):
        # All but the innermost binder have names enough.
        tree = ("join", "f", tuple(("use", name) for name in SIXTY[:30]))
        for name in SIXTY[:30][::-1]:
            tree = ("bind", name, (), tree)
        for name in SIXTY[:30]:
            tree = ("bind", name, (), tree)
        term = Term(tree)
        self.assertEqual(how_many(term, SIXTY[:29]), 0)
        self.assertEqual(list(all_namings(term, SIXTY[:29])), [])
        self.assert_error(NoNumber, 0, naming_at, term, SIXTY[:29], 0)

    def test_one_naming_after_another_with_one_name_left_each(self):
        tree = ("join", "f", tuple(("use", name) for name in SIXTY))
        for name in SIXTY[::-1]:
            tree = ("bind", name, (), tree)
        first = list(itertools.islice(all_namings(Term(tree), SIXTY), 50))
        self.assertEqual(first[0], tuple(SIXTY))
        self.assertEqual(first, [naming_at(Term(tree), SIXTY, number) for number in range(50)])


class TestErrors(Checks):

    def first_of_all(self, term, pool):
        return next(iter(all_namings(term, pool)))

    def test_no_term(self):
        for value in NO_TERMS:
            for pool in [["a"], None, value]:
                self.assert_error(NoTerm, value, how_many, value, pool)
                self.assert_error(NoTerm, value, self.first_of_all, value, pool)
                self.assert_error(NoTerm, value, naming_at, value, pool, None)
                self.assert_error(NoTerm, value, number_of, value, pool, None)

    def test_no_pool(self):
        for value in NO_POOLS:
            for term in [Term(X), PAIR]:
                self.assert_error(NoPool, value, how_many, term, value)
                self.assert_error(NoPool, value, self.first_of_all, term, value)
                for last in [0, (), None]:
                    self.assert_error(NoPool, value, naming_at, term, value, last)
                    self.assert_error(NoPool, value, number_of, term, value, last)

    def test_no_number(self):
        for number in no_numbers_below(6):
            self.assert_error(NoNumber, number, naming_at, PAIR, ["a", "b", "c"], number)
        for number in no_numbers_below(1):
            self.assert_error(NoNumber, number, naming_at, Term(X), [], number)
        for number in no_numbers_below(0) + [0]:
            self.assert_error(NoNumber, number, naming_at, PAIR, ["a"], number)

    def test_no_names(self):
        pool = ["a", "b", "z"]
        for names in [("a", "c"), ("c", "d"), ("a", "a"), ["z", "a"], ("a", "z"), (), ["a"], ("a", "b", "a")]:
            self.assert_error(NoNames, names, number_of, PAIR, pool, names)
        for names in [None, True, 0, "ab", {"a": 1, "b": 2}, {"a", "b"}, ["a", None], (["a"], "b"), PAIR, [("a", "b")]]:
            self.assert_error(NoNames, names, number_of, PAIR, pool, names)
        for names in [None, "", {}, ["a"], [None], set()]:
            self.assert_error(NoNames, names, number_of, Term(X), pool, names)

    def test_right_namings_that_are_not_from_the_pool(self):
        for names in [("a", "c"), ("c", "b"), ("x", "y")]:
            self.assertIs(is_right(PAIR, names), True)
            self.assert_error(NoNames, names, number_of, PAIR, ["a", "b"], names)

    def test_arguments_by_name(self):
        pool = ["a", "b", "c"]
        self.assertIs(is_pool(value=pool), True)
        self.assertEqual(how_many(pool=pool, term=STEPS), 12)
        self.assertEqual(len(list(all_namings(pool=pool, term=STEPS))), 12)
        self.assertEqual(naming_at(number=5, pool=pool, term=STEPS), ("b", "a", "c"))
        self.assertEqual(number_of(names=("b", "a", "a"), pool=pool, term=STEPS), 4)
        self.assert_error(NoPool, None, naming_at, number=None, pool=None, term=STEPS)


if __name__ == "__main__":
    unittest.main()
