"""Tests of how long calls over an ordinary term take, so that none gets many times slower unseen."""

import time
import unittest

from livenames.clashing import clashes, do_clash, hurt, live_at
from livenames.counting import all_namings, how_many, is_pool, naming_at, number_of
from livenames.fewest import accepts_fewest, crowd, fewest, fewest_paper, told_naming, width
from livenames.keeping import kept_by, most_kept, told_kept
from livenames.prices import accepts_kept, kept_paper
from livenames.terms import Term, is_tree
from livenames.walks import alike, free_names, meaning, names_of, shape_of, uses_of
from livenames.writing import are_names, catches, is_right, written
from tests.trees import use_name

# {x|y|f(x,{y||g(x,y,{x||f(x,y,z,{a||f(a,x,{z||z})})})},{x||x})}: of all those measured, this took longest.
TREE = ("bind", "x", (("use", "y"),), ("join", "f", (
    ("use", "x"),
    ("bind", "y", (), ("join", "g", (
        ("use", "x"), ("use", "y"),
        ("bind", "x", (), ("join", "f", (
            ("use", "x"), ("use", "y"), ("use", "z"),
            ("bind", "a", (), ("join", "f", (("use", "a"), ("use", "x"), ("bind", "z", (), ("use", "z"))))),
        ))),
    ))),
    ("bind", "x", (), ("use", "x")),
)))
TERM = Term(TREE)
NAMES = ("a", "b", "c", "d", "e", "f")
PAPER = (NAMES, 0)
POOL = tuple("p" + use_name(number) for number in range(58)) + ("y", "z")
WISHES = ("x", "y", "x", "x", "z", "x")
WEIGHTS = (3, 4, 5, 6, 7, 8)
KEPT = kept_paper(TERM, WISHES, WEIGHTS)

# A call may take so many times as long as it did when the test was written.
FACTOR = 15
CALLS = 2000

# Microseconds for some_work below, and for each call, on the machine on which the test was written.
WORK = 31.0
TIMES = [
    ("accepts_fewest", 1.4, lambda: accepts_fewest(TERM, PAPER)),
    ("is_right", 1.2, lambda: is_right(TERM, NAMES)),
    ("told_naming", 4.0, lambda: told_naming(TERM)),
    ("written", 9.5, lambda: written(TERM, NAMES)),
    ("alike", 0.3, lambda: alike(TERM, TERM)),
    ("hurt", 1.2, lambda: hurt(TERM, NAMES)),
    ("Term", 4.0, lambda: Term(TREE)),
    ("shape_of", 0.2, lambda: shape_of(TERM)),
    ("catches", 1.3, lambda: catches(TERM, NAMES)),
    ("meaning", 0.2, lambda: meaning(TERM)),
    ("is_tree", 3.7, lambda: is_tree(TREE)),
    ("are_names", 0.6, lambda: are_names(TERM, NAMES)),
    ("names_of", 0.2, lambda: names_of(TERM)),
    ("free_names", 0.2, lambda: free_names(TERM)),
    ("uses_of", 0.7, lambda: uses_of(TERM, 0)),
    ("live_at", 0.3, lambda: live_at(TERM, 4)),
    ("clashes", 0.4, lambda: clashes(TERM)),
    ("do_clash", 0.5, lambda: do_clash(TERM, 1, 4)),
    ("width", 0.6, lambda: width(TERM)),
    ("fewest", 1.7, lambda: fewest(TERM, apart=True)),
    ("crowd", 0.6, lambda: crowd(TERM)),
    ("fewest_paper", 4.6, lambda: fewest_paper(TERM)),
    ("is_pool", 3.5, lambda: is_pool(POOL)),
    ("how_many", 8.0, lambda: how_many(TERM, POOL)),
    ("naming_at", 16.0, lambda: naming_at(TERM, POOL, 123456789)),
    ("number_of", 12.5, lambda: number_of(TERM, POOL, POOL[:6])),
    ("kept_by", 2.5, lambda: kept_by(TERM, WISHES, NAMES)),
    ("told_kept", 9.5, lambda: told_kept(TERM, WISHES, WEIGHTS)),
    ("most_kept", 7.0, lambda: most_kept(TERM, WISHES, WEIGHTS)),
    ("accepts_kept", 13.0, lambda: accepts_kept(TERM, WISHES, WEIGHTS, KEPT)),
    # With a term that nothing has been asked yet.
    ("meaning of a new term", 10.0, lambda: meaning(Term(TREE))),
    ("shape_of a new term", 9.0, lambda: shape_of(Term(TREE))),
    ("alike of new terms", 31.0, lambda: alike(Term(TREE), Term(TREE))),
    ("is_right of a new term", 19.0, lambda: is_right(Term(TREE), NAMES)),
    ("catches of a new term", 19.0, lambda: catches(Term(TREE), NAMES)),
    ("accepts_fewest of a new term", 18.0, lambda: accepts_fewest(Term(TREE), PAPER)),
    ("told_naming of a new term", 21.0, lambda: told_naming(Term(TREE))),
]


def seconds(call, many):
    """How long so many calls take: the least of three times, as other work of the machine only adds to it."""
    found = []
    for _ in range(3):
        begin = time.perf_counter()
        for _ in range(many):
            call()
        found.append(time.perf_counter() - begin)
    return min(found)


def some_work():
    """A loop that takes as long as the machine is slow."""
    found = {}
    for number in range(300):
        found[number] = (number, str(number))
    return sorted([pair for pair in found.values() if isinstance(pair, tuple)])


class TestSpeed(unittest.TestCase):

    def allowed(self, told, many):
        """How many seconds so many calls may take, for a call of so many microseconds."""
        slowness = max(1.0, seconds(some_work, 100) * 1000000 / 100 / WORK)
        return FACTOR * slowness * told * many / 1000000

    def test_calls(self):
        for name, told, call in TIMES:
            with self.subTest(name):
                self.assertLess(seconds(call, CALLS), self.allowed(told, CALLS))

    def test_all_namings(self):
        for pool, many in [(("a", "b", "c", "d", "e"), 8000), (("y", "a", "z", "b", "c"), 3600)]:
            self.assertEqual(len(list(all_namings(TERM, pool))), many)
            self.assertLess(seconds(lambda: list(all_namings(TERM, pool)), 1), self.allowed(0.2, many))


if __name__ == "__main__":
    unittest.main()
