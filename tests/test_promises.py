"""Tests of what the document promises over the whole program ([0.2]), each over small terms."""

import itertools
import random
import unittest

from livenames.clashing import hurt
from livenames.counting import all_namings, how_many, naming_at, number_of
from livenames.fewest import accepts_fewest, fewest, fewest_paper, told_naming
from livenames.inlining import can_inline, inline, inline_renamed
from livenames.keeping import kept_weight, most_kept, told_kept
from livenames.leading import is_enough, is_way, lead
from livenames.live import Live
from livenames.notes import read_term, write_term
from livenames.numbered import from_form, numbered
from livenames.prices import accepts_kept, kept_paper
from livenames.putting import put, put_renamed
from livenames.terms import Term
from livenames.walks import alike, free_names, meaning, names_of, shape_of
from livenames.writing import catches, is_right, written
from tests.checks import Checks
from tests.linked import inline_slowly, put_slowly
from tests.slow import Walk
from tests.trees import X, Y, drawn_terms, named_trees, nested_terms, small_terms
from tests.wishing import Wished, wished_terms

FRESH = ["k", "l", "m", "n"]


def few_terms():
    """Small terms of up to three binders."""
    return [term for term in small_terms()[::11] + nested_terms()[::30] + drawn_terms(60, 3)[::3] if len(term.binders()) < 4]


class TestPromises(Checks):

    def test_a_right_exactly_if_no_clash_is_hurt_and_nothing_is_caught(self):
        for term in few_terms():
            walk = Walk(term)
            for naming in walk.all_namings(["x", "y", "z", "a"]):
                right = walk.is_right(naming)
                self.assertIs(alike(term, written(term, naming)), right)
                told = (is_right(term, naming), hurt(term, naming) == [], catches(term, naming) == [])
                self.assertEqual(told, (right,) * 3)

    def test_b_the_told_naming_has_the_fewest_names(self):
        for term in few_terms():
            walk = Walk(term)
            for apart in [False, True]:
                naming = told_naming(term, apart=apart)
                self.assertTrue(walk.is_right(naming))
                told = written(term, naming)
                self.assertEqual(len({*names_of(told), *free_names(told)}), fewest(term, apart=apart))
                pool = FRESH[:len(walk.names)] if apart else walk.free + FRESH[:len(walk.names)]
                least = min(len({*other, *walk.free}) for other in walk.right_namings(pool))
                self.assertEqual(fewest(term, apart=apart), least)

    def test_c_an_accepted_paper_of_the_fewest_names_is_true(self):
        for term in few_terms():
            walk = Walk(term)
            self.assertIs(accepts_fewest(term, fewest_paper(term)), True)
            for naming in walk.all_namings((walk.free + FRESH)[:4]):
                for binder in [None, *walk.binders]:
                    if accepts_fewest(term, (naming, binder)):
                        self.assertTrue(walk.is_right(naming))
                        self.assertEqual(len({*naming, *walk.free}), fewest(term))

    def test_d_numbers_and_right_namings_belong_to_one_another(self):
        for term in few_terms():
            for pool in [["z", "a", "x"], ["b", "y", "x", "c"]]:
                right = Walk(term).right_namings(pool)
                self.assertEqual(list(all_namings(term, pool)), right)
                self.assertEqual([naming_at(term, pool, number) for number in range(how_many(term, pool))], right)
                self.assertEqual([number_of(term, pool, naming) for naming in right], list(range(len(right))))

    def test_e_no_right_naming_keeps_more(self):
        for term, wishes, weights in wished_terms()[::5]:
            wished = Wished(term, wishes, weights)
            naming = told_kept(term, wishes, weights)
            self.assertTrue(wished.walk.is_right(naming))
            most = most_kept(term, wishes, weights)
            self.assertEqual((kept_weight(term, wishes, weights, naming), wished.weight_by(naming)), (most, most))
            self.assertEqual(max(wished.weight_by(right) for right in wished.right_namings()), most)

    def test_f_an_accepted_paper_of_what_is_kept_is_true(self):
        for term, wishes, weights in wished_terms()[::15]:
            self.assertIs(accepts_kept(term, wishes, weights, kept_paper(term, wishes, weights)), True)
            wished = Wished(term, wishes, weights)
            most = max(wished.weight_by(right) for right in wished.right_namings())
            for naming in wished.right_namings()[::3]:
                for prices in itertools.product([0, 3, 5], repeat=len(wishes)):
                    if accepts_kept(term, wishes, weights, (naming, list(prices))):
                        self.assertEqual(wished.weight_by(naming), most)

    def test_g_alike_exactly_if_the_forms_are_equal(self):
        terms = [Term(tree) for size in range(1, 4) for tree in named_trees(size)] + few_terms()[::3]
        for one in terms:
            self.assertIs(alike(one, from_form(numbered(one))), True)
            for other in terms:
                same = shape_of(one) == shape_of(other) and Walk(one).meant == Walk(other).meant
                self.assertEqual((alike(one, other), numbered(one) == numbered(other)), (same, same))

    def test_h_what_comes_of_putting_has_the_stated_meaning_and_the_fewest_renamed(self):
        guest = Term(("bind", "y", (), ("join", "h", (X, Y))))
        for term in few_terms():
            for number in range(len(term.uses())):
                links = {"x": None}
                made = put_slowly(term.tree(), number, guest.tree(), links)
                told = put(term, number, guest, links)
                self.assertIs(alike(told, made.own_term), True)
                self.assertEqual(meaning(told), made.walk.meant)
                if len(made.old) < 4:
                    self.assertEqual(len(put_renamed(term, number, guest, links)), made.fewest_renamed())

    def test_h_what_comes_of_inlining_has_the_stated_meaning_and_the_fewest_renamed(self):
        for term in small_terms()[::3]:
            for binder in range(len(term.binders())):
                if can_inline(term, binder):
                    made = inline_slowly(term.tree(), binder)
                    told = inline(term, binder)
                    self.assertIs(alike(told, made.own_term), True)
                    if len(made.old) < 4:
                        self.assertEqual(len(inline_renamed(term, binder)), made.fewest_renamed())

    def test_i_a_told_way_is_one(self):
        for term in few_terms():
            walk = Walk(term)
            pool = [*walk.free, "k", "l", "m", "n", "o"]
            pool = pool[:max([len(live) + 2 for live in walk.lives] + [len(walk.free)])]
            self.assertIs(is_enough(term, pool), True)
            right = walk.right_namings(pool)
            for one in right[::5]:
                for other in right[::3]:
                    steps = lead(term, pool, one, other)
                    self.assertIs(is_way(term, pool, one, other, steps), True)
                    self.assertLess(len(steps), 2 ** len(one))

    def test_j_written_in_a_text_and_read_back(self):
        for term in small_terms() + nested_terms() + drawn_terms(200, 9):
            self.assertEqual(read_term(write_term(term)), term)

    def test_j_undone_a_live_term_is_as_it_was(self):
        dice = random.Random(9)
        for term in few_terms():
            live = Live(term)
            told = []
            for _ in range(6):
                told.append((live.kept(), live.named(), len(live)))
                dice.choice([live.tune, lambda: live.wrap(dice.randrange(len(live.kept())), dice.choice("xyzq"))])()
            for before in told[::-1]:
                live.undo()
                self.assertEqual((live.kept(), live.named(), len(live)), before)


if __name__ == "__main__":
    unittest.main()
