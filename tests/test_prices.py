"""Tests of livenames.prices."""

import itertools
import unittest

from livenames.errors import NoTerm, NoWeights, NoWishes
from livenames.keeping import kept_weight, most_kept, told_kept
from livenames.prices import accepts_kept, are_prices, kept_paper, told_prices
from livenames.terms import Term
from livenames.walks import names_of
from tests.checks import NO_NUMBERS, NO_TERMS, Checks
from tests.trees import X, Y, greatest_terms, use_name
from tests.wishing import Wished, wished_terms

Z = ("use", "z")

# The example of the document: {x||{y||{z||f(x,y,z)}}}.
THREE = Term(("bind", "x", (), ("bind", "y", (), ("bind", "z", (), ("join", "f", (X, Y, Z))))))
WISHES = ["x", "x", "x"]
# {x||{y||f(x,y,z)}}
PAIR = Term(("bind", "x", (), ("bind", "y", (), ("join", "f", (X, Y, Z)))))
# {x||f(x,{y||g(x)},{z||g(x)})}: the outer one clashes with both others.
FORK = Term(("bind", "x", (), ("join", "f", (X, ("bind", "y", (), X), ("bind", "z", (), X)))))

NO_ROWS = [
    None, True, 0, "", "ab", b"ab", [], (), {}, {"a": 1, "b": 2}, {0: 1, 1: 2}, set(), {1, 2}, object(), range(2), PAIR,
    [[1, 2]], [1], ["a"], (None,), [1, 2, 3], ("a", "b", "c"),
]
NO_WISHES = NO_ROWS + [["a", ""], (None, "B"), [None, 1], (True, None), [["a"], "b"]]
NO_WEIGHTS = NO_ROWS + [[bad, 1] for bad in NO_NUMBERS + [-1, 1001]] + [(1, bad) for bad in NO_NUMBERS + [-1, 1001]]


class TestToldPrices(Checks):

    def test_told_prices(self):
        self.assert_same(told_prices(THREE, WISHES, [5, 3, 4]), [1, 0, 4])
        self.assert_same(told_prices(THREE, tuple(WISHES), (5, 3, 4)), [1, 0, 4])
        self.assert_same(told_prices(THREE, WISHES, [5, 5, 4]), [0, 1, 4])
        self.assert_same(told_prices(FORK, ["q", "q", "q"], [5, 2, 2]), [1, 2, 2])
        self.assert_same(told_prices(FORK, ["q", "q", "q"], [4, 2, 3]), [0, 2, 3])
        self.assert_same(told_prices(FORK, ["q", "q", "w"], [4, 2, 3]), [2, 2, 3])
        self.assert_same(told_prices(Term(X), [], []), [])

    def test_binders_without_a_price(self):
        self.assert_same(told_prices(FORK, [None, "q", None], [1000, 7, 8]), [0, 7, 0])
        self.assert_same(told_prices(PAIR, ["z", "z"], [1000, 1000]), [0, 0])
        self.assert_same(told_prices(PAIR, ["q", "z"], [5, 1000]), [5, 0])

    def test_as_the_document_says_it(self):
        for term, wishes, weights in wished_terms():
            told = told_prices(term, wishes, weights)
            self.assert_same(told, Wished(term, wishes, weights).prices)
            self.assertIs(are_prices(term, wishes, weights, told), True)
            self.assertEqual(sum(told), most_kept(term, wishes, weights))


class TestArePrices(Checks):

    def test_right_prices(self):
        for prices in [[1, 0, 4], [5, 5, 5], [0, 0, 5], [2, 0, 4], [0, 1, 4], [1000, 1000, 1000], [0, 0, 10 ** 50]]:
            self.assertIs(are_prices(THREE, WISHES, [5, 3, 4], prices), True, prices)
        self.assertIs(are_prices(Term(X), [], [], []), True)

    def test_prices_that_are_just_too_small(self):
        for prices in [[0, 0, 4], [1, 0, 3], [0, 1, 3], [5, 3, 3], [9, 2, 0], [0, 0, 0], [0, 9, 0]]:
            self.assertIs(are_prices(THREE, WISHES, [5, 3, 4], prices), False, prices)

    def test_those_within_pay_for_those_around_and_not_the_other_way(self):
        self.assertIs(are_prices(FORK, ["q"] * 3, [4, 2, 2], [0, 2, 2]), True)
        self.assertIs(are_prices(FORK, ["q"] * 3, [4, 2, 2], [4, 0, 2]), False)
        self.assertIs(are_prices(FORK, ["q"] * 3, [4, 2, 2], [4, 2, 1]), False)

    def test_those_of_another_wish_do_not_pay(self):
        self.assertIs(are_prices(FORK, ["q", "q", "w"], [4, 2, 2], [0, 2, 2]), False)
        self.assertIs(are_prices(FORK, ["q", "q", "w"], [4, 2, 2], [2, 2, 2]), True)

    def test_where_the_price_must_be_nought(self):
        self.assertIs(are_prices(PAIR, [None, "q"], [5, 5], [0, 5]), True)
        self.assertIs(are_prices(PAIR, [None, "q"], [5, 5], [1, 5]), False)
        self.assertIs(are_prices(PAIR, ["z", "q"], [5, 5], [0, 5]), True)
        self.assertIs(are_prices(PAIR, ["z", "q"], [5, 5], [5, 5]), False)
        self.assertIs(are_prices(PAIR, ["q", "z"], [5, 5], [5, 0]), True)
        self.assertIs(are_prices(PAIR, ["q", "z"], [5, 5], [5, 1]), False)
        self.assertIs(are_prices(PAIR, [None, None], [0, 0], [0, 0]), True)

    def test_a_weight_of_nought_lets_any_price(self):
        self.assertIs(are_prices(PAIR, ["q", "w"], [0, 0], [0, 0]), True)
        self.assertIs(are_prices(PAIR, ["q", "w"], [0, 0], [3, 7]), True)

    def test_any_value(self):
        good = [1, 0, 4]
        self.assertIs(are_prices(THREE, WISHES, [5, 3, 4], good), True)
        wrong = NO_NUMBERS + [(1, 0, 4), (), [], [9], [9, 9], [9, 9, 9, 9], {0: 1, 1: 0, 2: 4}, {9}, "999", [good], 9, 1]
        wrong += [[bad, 9, 9] for bad in NO_NUMBERS + [-1]] + [[9, 9, bad] for bad in NO_NUMBERS + [-1, "9", -10 ** 50]]
        wrong += [[True, False, 4], [1, False, 4], [9, -1, 9], ["a", "b", "c"], [None, None, None]]
        for value in wrong:
            self.assertIs(are_prices(THREE, WISHES, [5, 3, 4], value), False, value)
        self.assertIs(are_prices(PAIR, [None, None], [0, 0], [False, 0]), False)
        self.assertIs(are_prices(PAIR, [None, None], [0, 0], (0, 0)), False)
        self.assertIs(are_prices(Term(X), [], [], ()), False)
        self.assertIs(are_prices(Term(X), [], [], None), False)

    def test_as_the_document_says_it(self):
        for term, wishes, weights in wished_terms()[::3]:
            wished = Wished(term, wishes, weights)
            choices = [sorted({0, 1, price, weight}) for price, weight in zip(wished.prices, weights)]
            for prices in itertools.product(*choices):
                right = wished.are_prices(prices)
                self.assertIs(are_prices(term, wishes, weights, list(prices)), right)

    def test_no_right_naming_keeps_more_than_prices(self):
        for term, wishes, weights in wished_terms()[::3]:
            wished = Wished(term, wishes, weights)
            most = max(wished.weight_by(naming) for naming in wished.right_namings())
            for prices in itertools.product([0, 2, 5], repeat=len(wishes)):
                if are_prices(term, wishes, weights, list(prices)):
                    self.assertLessEqual(most, sum(prices))


class TestPapers(Checks):

    def test_papers(self):
        self.assert_same(kept_paper(THREE, WISHES, [5, 3, 4]), (("x", "a", "b"), [1, 0, 4]))
        self.assert_same(kept_paper(Term(X), (), ()), ((), []))

    def test_the_told_paper_is_accepted(self):
        for term, wishes, weights in wished_terms():
            paper = kept_paper(term, wishes, weights)
            self.assert_same(paper, (told_kept(term, wishes, weights), told_prices(term, wishes, weights)))
            self.assertIs(accepts_kept(term, wishes, weights, paper), True)

    def test_other_right_papers_are_accepted(self):
        weights = [5, 3, 4]
        for paper in [(("x", "y", "z"), [1, 0, 4]), (("x", "q", "w"), [1, 0, 4]), (("x", "a", "b"), [0, 0, 5]),
                      (("x", "a", "b"), [0, 1, 4])]:
            self.assertIs(accepts_kept(THREE, WISHES, weights, paper), True, paper)

    def test_wrong_papers(self):
        weights = [5, 3, 4]
        wrong = [
            # Not right, though it would keep as much.
            (("x", "a", "a"), [1, 0, 4]), (("x", "x", "x"), [4, 4, 4]),
            # Prices that are too small, or more than is kept.
            (("x", "a", "b"), [5, 0, 0]), (("x", "a", "b"), [2, 0, 4]), (("a", "x", "b"), [0, 0, 3]),
            # Less is kept than can be.
            (("a", "x", "b"), [1, 0, 4]), (("a", "b", "x"), [1, 0, 4]), (("a", "b", "x"), [0, 0, 4]),
            (("a", "b", "c"), [0, 0, 0]),
        ]
        for paper in wrong:
            self.assertIs(accepts_kept(THREE, WISHES, weights, paper), False, paper)
        self.assertIs(accepts_kept(PAIR, ["z", "q"], [5, 2], (("z", "q"), [5, 2])), False)
        self.assertIs(accepts_kept(PAIR, [None, "q"], [5, 2], (("a", "w"), [0, 0])), False)

    def test_any_value(self):
        naming, prices = ("x", "a", "b"), [1, 0, 4]
        weights = [5, 3, 4]
        self.assertIs(accepts_kept(THREE, WISHES, weights, (naming, prices)), True)
        wrong = NO_NUMBERS + [0, 1, (), (naming,), [naming, prices], (naming, prices, None), (prices, naming), naming]
        wrong += [(["x", "a", "b"], prices), (naming, (1, 0, 4)), (["x", "a", "b"], (1, 0, 4)), {naming: prices}]
        wrong += [("xab", prices), (("x", "a"), prices), (("x", "a", None), prices), (("x", "a", "b", "c"), prices)]
        wrong += [(naming, value) for value in NO_NUMBERS + [[], [5], [1, 0, 4, 0], [True, 0, 4], [1, False, 4], "104"]]
        wrong += [(value, prices) for value in NO_NUMBERS]
        for paper in wrong:
            self.assertIs(accepts_kept(THREE, WISHES, weights, paper), False, paper)
        for paper in [(), ((),), ((), ()), ([], []), [(), []], None, ((), None), (None, []), ((), [], [])]:
            self.assertIs(accepts_kept(Term(X), [], [], paper), False, paper)
        self.assertIs(accepts_kept(Term(X), [], [], ((), [])), True)

    def test_accepted_exactly_if_right_and_then_true(self):
        for term, wishes, weights in wished_terms()[::9]:
            wished = Wished(term, wishes, weights)
            most = most_kept(term, wishes, weights)
            pool = sorted({wish for wish in wishes if wish is not None})[:2] + ["k", "l"]
            for naming in wished.walk.all_namings(pool[:3]):
                for prices in [wished.prices, list(weights), [0] * len(wishes), [1] * len(wishes)]:
                    right = wished.walk.is_right(naming) and wished.are_prices(prices)
                    right = right and wished.weight_by(naming) == sum(prices)
                    self.assertIs(accepts_kept(term, wishes, weights, (naming, list(prices))), right)
                    self.assertFalse(right and wished.weight_by(naming) != most)


class TestArguments(Checks):

    def test_no_term(self):
        for value in NO_TERMS:
            for row in [[], None, ["a"], value]:
                self.assert_error(NoTerm, value, told_prices, value, row, row)
                self.assert_error(NoTerm, value, kept_paper, value, row, row)
                self.assert_error(NoTerm, value, are_prices, value, row, row, row)
                self.assert_error(NoTerm, value, accepts_kept, value, row, row, row)

    def test_no_wishes(self):
        for value in NO_WISHES:
            for last in [[1, 1], None]:
                self.assert_error(NoWishes, value, told_prices, PAIR, value, last)
                self.assert_error(NoWishes, value, kept_paper, PAIR, value, last)
                self.assert_error(NoWishes, value, are_prices, PAIR, value, last, [1, 1])
                self.assert_error(NoWishes, value, accepts_kept, PAIR, value, last, None)

    def test_no_weights(self):
        for value in NO_WEIGHTS:
            self.assert_error(NoWeights, value, told_prices, PAIR, ["a", "b"], value)
            self.assert_error(NoWeights, value, kept_paper, PAIR, (None, "b"), value)
            for last in [None, [1, 1], (("a", "b"), [1, 1])]:
                self.assert_error(NoWeights, value, are_prices, PAIR, ["a", "b"], value, last)
                self.assert_error(NoWeights, value, accepts_kept, PAIR, ["a", "b"], value, last)

    def test_arguments_by_name(self):
        named = {"weights": [5, 3, 4], "wishes": WISHES, "term": THREE}
        self.assertEqual(told_prices(**named), [1, 0, 4])
        self.assertEqual(kept_paper(**named), (("x", "a", "b"), [1, 0, 4]))
        self.assertIs(are_prices(value=[1, 0, 4], **named), True)
        self.assertIs(accepts_kept(paper=(("x", "a", "b"), [1, 0, 4]), **named), True)
        self.assert_error(NoWishes, None, are_prices, value=None, weights=None, wishes=None, term=THREE)

    def test_new_lists(self):
        self.assert_new_lists(told_prices, THREE, WISHES, [5, 3, 4])
        self.assert_new_lists(lambda: kept_paper(THREE, WISHES, [5, 3, 4])[1])

    def test_what_is_handed_in_stays(self):
        wishes, weights, prices = ["z", "q"], [5, 2], [0, 2]
        told_prices(PAIR, wishes, weights)
        are_prices(PAIR, wishes, weights, prices)
        accepts_kept(PAIR, wishes, weights, (("a", "q"), prices))
        self.assertEqual((wishes, weights, prices), (["z", "q"], [5, 2], [0, 2]))

    def test_the_greatest_terms(self):
        for term in greatest_terms():
            many = len(term.binders())
            for wishes in [["x"] * many, list(names_of(term)), [use_name(number % 5) for number in range(many)]]:
                weights = [1000 - (number * 37) % 1001 for number in range(many)]
                naming, prices = kept_paper(term, wishes, weights)
                self.assertEqual(prices, Wished(term, wishes, weights).prices)
                self.assertEqual(prices, told_prices(term, wishes, weights))
                self.assertIs(are_prices(term, wishes, weights, prices), True)
                self.assertIs(accepts_kept(term, wishes, weights, (naming, prices)), True)
                self.assertEqual(kept_weight(term, wishes, weights, naming), sum(prices))


if __name__ == "__main__":
    unittest.main()
