"""Tests of livenames.leading."""

import unittest
from unittest import mock

from livenames.errors import NoNames, NoPool, NoTerm, TooMany
from livenames.leading import is_enough, is_way, lead
from livenames.terms import Term
from livenames.walks import names_of
from tests.checks import NO_NUMBERS, NO_TERMS, Checks
from tests.slow import Walk
from tests.test_counting import NO_POOLS
from tests.trees import EMPTY, PLAIN, X, Y, drawn_terms, greatest_terms, named_trees, nested_terms, use_name
from tests.values import NO_NAMES, NO_TEXTS

Z = ("use", "z")

# The example of the document: {x||{y||f(x,y)}}.
PAIR = Term(("bind", "x", (), ("bind", "y", (), ("join", "f", (X, Y)))))
# {x||{y||f(x,y,z)}}
FREE = Term(("bind", "x", (), ("bind", "y", (), ("join", "f", (X, Y, Z)))))
POOL = ["a", "b", "c"]


def nested(many, free=()):
    """So many binders, all live at the innermost one."""
    names = [use_name(number) for number in range(many)]
    tree = ("join", "f", tuple(("use", name) for name in [*names, *free]))
    for name in reversed(names):
        tree = ("bind", name, (), tree)
    return Term(tree)


def is_way_slowly(term, pool, one, other, steps):
    """What the document says of a way, for a list of pairs of binders and names."""
    walk = Walk(term)
    naming = tuple(one)
    for binder, name in steps:
        last = naming
        naming = (*naming[:binder], name, *naming[binder + 1:])
        if naming == last or name not in pool or not walk.is_right(naming):
            return False
    return naming == tuple(other)


class TestIsEnough(Checks):

    def test_two_more_names_than_are_live(self):
        for many in range(1, 6):
            for free in [(), ("z",), ("y", "z")]:
                term = nested(many, free)
                live = many - 1 + len(free)
                pool = [*free, *("p" + letter for letter in "abcdefghijkl")]
                self.assertIs(is_enough(term, pool[:live + 2]), True)
                self.assertIs(is_enough(term, tuple(pool[:live + 3])), True)
                self.assertIs(is_enough(term, pool[:live + 1]), False)

    def test_a_free_name_that_lacks(self):
        self.assertIs(is_enough(FREE, ["a", "b", "c", "z"]), True)
        self.assertIs(is_enough(FREE, ["a", "b", "c", "d", "e", "x", "y"]), False)
        self.assertIs(is_enough(Term(("join", "f", (PLAIN, Z))), ["a", "b"]), False)
        self.assertIs(is_enough(Term(("join", "f", (PLAIN, Z))), ["a", "z"]), True)

    def test_no_binders(self):
        self.assertIs(is_enough(Term(EMPTY), []), True)
        self.assertIs(is_enough(Term(X), []), False)
        self.assertIs(is_enough(Term(X), ("x",)), True)
        self.assertIs(is_enough(Term(("join", "f", (X, Y))), ["y"]), False)

    def test_no_names_at_all(self):
        self.assertIs(is_enough(Term(("bind", "x", (), EMPTY)), ["a"]), False)
        self.assertIs(is_enough(Term(("bind", "x", (), EMPTY)), ["a", "b"]), True)

    def test_all_small_terms(self):
        for term in drawn_terms(300, 9)[::2] + nested_terms()[::8]:
            walk = Walk(term)
            for pool in [[], ["z", "x"], ["x", "y", "z"], ["x", "y", "z", "ab"], ["x", "y", "z", "ab", "a", "b", "c"]]:
                enough = set(walk.free) <= set(pool) and all(len(pool) >= len(live) + 2 for live in walk.lives)
                self.assertIs(is_enough(term, pool), enough)


class TestIsWay(Checks):

    def test_ways(self):
        for steps in [
            [(0, "c"), (1, "a"), (0, "b")], [(1, "c"), (0, "b"), (1, "a")],
            [(0, "c"), (1, "a"), (1, "b"), (1, "a"), (0, "b")],
        ]:
            self.assertIs(is_way(PAIR, POOL, ("a", "b"), ("b", "a"), steps), True, steps)
            self.assertIs(is_way(PAIR, tuple(POOL), ["a", "b"], ["b", "a"], steps), True, steps)

    def test_no_ways(self):
        for steps in [
            [], [(0, "c")], [(0, "b"), (1, "a")], [(0, "c"), (1, "a")], [(1, "a"), (0, "b")], [(0, "c"), (0, "b"), (1, "a")],
            # A name that is not in the pool, and a step that changes nothing.
            [(0, "d"), (1, "a"), (0, "b")], [(0, "a"), (0, "c"), (1, "a"), (0, "b")],
            [(0, "c"), (1, "a"), (0, "b"), (0, "b")], [(0, "c"), (1, "a"), (0, "b"), (1, "c")],
        ]:
            self.assertIs(is_way(PAIR, POOL, ("a", "b"), ("b", "a"), steps), False, steps)

    def test_no_steps(self):
        self.assertIs(is_way(PAIR, POOL, ("a", "b"), ["a", "b"], []), True)
        self.assertIs(is_way(PAIR, POOL, ("a", "b"), ("a", "c"), []), False)
        self.assertIs(is_way(Term(X), ["x"], (), [], []), True)
        self.assertIs(is_way(Term(X), [], [], (), [(0, "a")]), False)

    def test_there_and_back(self):
        self.assertIs(is_way(PAIR, POOL, ("a", "b"), ("a", "b"), [(0, "c"), (0, "a")]), True)
        self.assertIs(is_way(PAIR, POOL, ("a", "b"), ("a", "b"), [(0, "c"), (1, "a")]), False)

    def test_the_pool_need_not_be_enough(self):
        self.assertIs(is_way(PAIR, ["a", "b"], ("a", "b"), ("a", "b"), []), True)
        self.assertIs(is_way(FREE, POOL, ("a", "b"), ("a", "c"), [(1, "c")]), True)
        self.assertIs(is_way(FREE, ["a", "z", "b"], ("a", "b"), ("a", "b"), [(1, "z"), (1, "b")]), False)

    def test_any_value(self):
        good = [(0, "c"), (1, "a"), (0, "b")]
        wrong = NO_NUMBERS + NO_TERMS + [0, 1, tuple(good), {(0, "c"): 0}, iter(good), "abc", [good], (0, "c")]
        wrong = [value for value in wrong if value != []]
        for bad in NO_NUMBERS + [0, 1, (), (0,), (0, "c", 0), [0, "c"], ("c", 0), (0, 0), ("0", "c"), {0: "c"}, {0, "c"}, "0c"]:
            wrong += [[bad], [bad, *good[1:]], [*good, bad]]
        for bad in [number for number in NO_NUMBERS if number is not None] + [None, -1, -2, 2, 10 ** 50]:
            wrong += [[(bad, "c"), *good[1:]], [*good[:2], (bad, "b")]]
        for bad in NO_NAMES + NO_TEXTS + ["d", "z", mock.ANY]:
            wrong += [[(0, bad), *good[1:]], [*good[:2], (0, bad)]]
        for value in wrong:
            self.assertIs(is_way(PAIR, POOL, ("a", "b"), ("b", "a"), value), False, value)
        self.assertIs(is_way(PAIR, POOL, ("a", "b"), ("b", "a"), good), True)
        for value in NO_NUMBERS + [(), {}, "", None, 0]:
            if value != []:
                self.assertIs(is_way(PAIR, POOL, ("a", "b"), ("a", "b"), value), False, value)
        # True and 1 are no binder for one another.
        self.assertIs(is_way(PAIR, POOL, ("a", "b"), ("a", "c"), [(True, "c")]), False)
        self.assertIs(is_way(PAIR, POOL, ("a", "b"), ("c", "b"), [(False, "c")]), False)

    def test_all_short_lists_of_steps(self):
        pool = ["x", "y", "z", "a"]
        for term in nested_terms()[::60] + drawn_terms(60, 3)[::6]:
            right = Walk(term).right_namings(pool)
            singles = [(binder, name) for binder in range(len(term.binders())) for name in pool]
            lists = [[], *([one] for one in singles), *([one, other] for one in singles[::2] for other in singles[::3])]
            for one in right[::5]:
                for steps in lists:
                    for other in [right[0], right[-1], one]:
                        told = is_way(term, pool, one, other, steps)
                        self.assertIs(told, is_way_slowly(term, pool, one, other, steps))


class TestLead(Checks):

    def assert_led(self, term, pool, one, other):
        steps = lead(term, pool, one, other)
        self.assertIs(type(steps), list)
        self.assertLessEqual(len(steps), 2 ** len(term.binders()) - 1)
        self.assertIs(is_way(term, pool, one, other, steps), True)
        self.assertTrue(is_way_slowly(term, pool, one, other, steps))
        return steps

    def test_the_example(self):
        steps = self.assert_led(PAIR, POOL, ("a", "b"), ("b", "a"))
        self.assertEqual(len(steps), 3)

    def test_no_steps(self):
        self.assert_same(lead(PAIR, POOL, ("a", "b"), ["a", "b"]), [])
        self.assert_same(lead(Term(EMPTY), [], (), []), [])

    def test_namings_and_pools_as_lists_and_tuples(self):
        for one in [("a", "b"), ["a", "b"]]:
            for other in [("c", "a"), ["c", "a"]]:
                for pool in [POOL, tuple(POOL)]:
                    self.assert_led(PAIR, pool, one, other)

    def test_all_pairs_of_right_namings(self):
        terms = [Term(tree) for size in range(1, 5) for tree in named_trees(size)][::9]
        for term in terms + list(nested_terms()[::100]) + list(drawn_terms(60, 3)[::10]):
            walk = Walk(term)
            live = max((len(live) for live in walk.lives), default=0)
            pool = [*walk.free, "k", "l", "m", "n", "o", "p"][:max(live + 2, len(walk.free))]
            self.assertIs(is_enough(term, pool), True)
            right = walk.right_namings(pool)
            for one in right:
                for other in right:
                    self.assert_led(term, pool, one, other)

    def test_ten_binders(self):
        for free in [(), ("z",)]:
            term = nested(10, free)
            pool = [*free, *("p" + letter for letter in "abcdefghijk")]
            names = pool[len(free):]
            one, other = tuple(names[:10]), tuple(names[1:11])
            for second in [other, other[::-1], one[::-1], (*one[1:], one[0]), (*one[:8], one[9], one[8])]:
                self.assert_led(term, pool, one, second)
                self.assert_led(term, pool, second, one)

    def test_ten_binders_of_other_forms(self):
        for term in [term for term in drawn_terms(200, 12) if len(term.binders()) in (8, 9, 10)][:20]:
            walk = Walk(term)
            live = max(len(live) for live in walk.lives)
            pool = [*walk.free, *("p" + letter for letter in "abcdefghijklmno")][:max(live + 2, len(walk.free))]
            first = self.first_right(walk, pool)
            last = self.first_right(walk, pool[::-1])
            self.assert_led(term, pool, first, last)
            self.assert_led(term, pool, last, first)

    def first_right(self, walk, pool):
        naming = []
        for live in walk.lives:
            taken = [walk.name_by(naming, one) for one in live]
            naming.append(next(name for name in pool if name not in taken))
        return tuple(naming)

    def test_eleven_binders(self):
        term = nested(11)
        pool = ["p" + letter for letter in "abcdefghijklm"]
        one = tuple(pool[:11])
        with self.assertRaises(TooMany) as caught:
            lead(term, pool, one, one)
        self.assert_same(caught.exception.most, 10)
        self.assertIs(is_enough(term, pool), True)
        self.assertIs(is_way(term, pool, one, one, []), True)
        self.assertIs(is_way(term, pool, one, (*pool[:10], "pl"), [(10, "pl")]), True)

    def test_the_greatest_terms(self):
        for term in greatest_terms():
            names = tuple("p" + name + "p" for name in names_of(term))
            pool = list(dict.fromkeys(names))[:60]
            self.assertIs(is_enough(term, pool), False)
            if Walk(term).is_right(names) and len(names) > 0:
                self.assertIs(is_way(term, pool, names, names, []), True)


class TestErrors(Checks):

    def test_no_term(self):
        for value in NO_TERMS:
            for pool in [POOL, None]:
                self.assert_error(NoTerm, value, is_enough, value, pool)
                self.assert_error(NoTerm, value, is_way, value, pool, None, None, None)
                self.assert_error(NoTerm, value, lead, value, pool, (), ())

    def test_no_pool(self):
        for value in NO_POOLS:
            for term in [PAIR, Term(EMPTY)]:
                self.assert_error(NoPool, value, is_enough, term, value)
                for names in [("a", "b"), None, ()]:
                    self.assert_error(NoPool, value, is_way, term, value, names, names, [])
                    self.assert_error(NoPool, value, lead, term, value, names, names)

    def test_a_pool_that_is_not_enough(self):
        for term, pool, one in [(PAIR, ["a", "b"], ("a", "b")), (FREE, ["a", "b", "c", "d"], ("a", "b")),
                                (FREE, ["a", "b", "z"], ("a", "b")), (Term(X), [], ())]:
            for names in [one, None]:
                self.assert_error(NoPool, pool, lead, term, pool, names, names)
            self.assertIs(is_way(term, pool, one, one, []), True)
        pool = ["p" + letter for letter in "abcdefghijk"]
        self.assert_error(NoPool, pool, lead, nested(11), pool, pool[:11], pool[:11])

    def test_no_names(self):
        wrong = [("a", "a"), ("a", "d"), ["z", "a"], None, "ab", (), ["a"], ("a", "b", "c"), ["a", None], ("a", "B"), {}]
        for value in wrong:
            for other in [("a", "b"), ("a", "a"), None]:
                self.assert_error(NoNames, value, is_way, PAIR, POOL, value, other, [])
                self.assert_error(NoNames, value, lead, PAIR, POOL, value, other)
            self.assert_error(NoNames, value, is_way, PAIR, POOL, ("a", "b"), value, None)
            self.assert_error(NoNames, value, lead, PAIR, POOL, ["a", "b"], value)

    def test_no_names_come_ahead_of_too_many(self):
        pool = ["p" + letter for letter in "abcdefghijklm"]
        one, bad = pool[:11], pool[:10] + ["pz"]
        self.assert_error(NoNames, bad, lead, nested(11), pool, bad, one)
        self.assert_error(NoNames, bad, lead, nested(11), pool, one, bad)

    def test_by_name(self):
        named = {"other": ("b", "a"), "one": ("a", "b"), "pool": POOL, "term": PAIR}
        self.assertIs(is_enough(pool=POOL, term=PAIR), True)
        self.assertEqual(lead(**named), lead(PAIR, POOL, ("a", "b"), ("b", "a")))
        self.assertIs(is_way(steps=lead(**named), **named), True)
        self.assert_error(NoPool, None, lead, other=None, one=None, pool=None, term=PAIR)

    def test_new_lists(self):
        self.assert_new_lists(lead, PAIR, POOL, ("a", "b"), ("b", "a"))
        self.assert_new_lists(lead, PAIR, POOL, ("a", "b"), ("a", "b"))

    def test_what_is_handed_in_stays(self):
        pool, one, other = list(POOL), ["a", "b"], ["b", "a"]
        steps = lead(PAIR, pool, one, other)
        kept = list(steps)
        is_way(PAIR, pool, one, other, steps)
        self.assertEqual((pool, one, other, steps), (POOL, ["a", "b"], ["b", "a"], kept))


if __name__ == "__main__":
    unittest.main()
