"""Wishes and weights that several tests use, and what the document says of them, word by word."""

import functools
import random

from tests.slow import Walk
from tests.trees import drawn_terms, nested_terms, small_terms


class Wished:
    """What the document says of a term with wishes and weights."""

    def __init__(self, term, wishes, weights):
        self.walk = Walk(term)
        self.names = list(self.walk.names)
        self.wishes = wishes
        self.weights = weights
        self.prices = [0] * len(wishes)
        self.kept = []
        for name in sorted({wish for wish in wishes if wish is not None}):
            self.price_name(name)

    def asking(self, name):
        """The binders that wish a name and at which it is not live."""
        return [binder for binder in self.walk.binders
                if self.wishes[binder] == name and name not in self.walk.live_at(binder)]

    def price_name(self, name):
        asking = self.asking(name)
        for binder in asking[::-1]:
            others = [self.prices[other] for other in asking if binder in self.walk.live_at(other)]
            if self.weights[binder] - sum(others) > 0:
                self.prices[binder] = self.weights[binder] - sum(others)
        kept = []
        for binder in asking:
            if self.prices[binder] > 0 and not [one for one in kept if one in self.walk.live_at(binder)]:
                kept.append(binder)
        self.kept += kept

    def naming(self):
        """The told naming."""
        out = {*self.walk.free, *self.names, *self.wishes}
        letters = "abcdefghijklmnopqrstuvwxyz"
        fresh = (name for name in [*letters, *(a + b for a in letters for b in letters)] if name not in out)
        return tuple(self.wishes[binder] if binder in self.kept else next(fresh) for binder in self.walk.binders)

    def weight_by(self, naming):
        return sum(weight for name, wish, weight in zip(naming, self.wishes, self.weights) if name == wish)

    def are_prices(self, value):
        for binder in self.walk.binders:
            asking = self.asking(self.wishes[binder]) if self.wishes[binder] is not None else []
            paid = value[binder] + sum(value[other] for other in asking if binder in self.walk.live_at(other))
            if binder not in asking and value[binder] != 0:
                return False
            if binder in asking and paid < self.weights[binder]:
                return False
        return all(price >= 0 for price in value)

    def right_namings(self):
        """All right namings from the wishes and a name more for each binder; no other one keeps more."""
        wished = sorted({wish for wish in self.wishes if wish is not None})
        return self.walk.right_namings(wished + ["k", "l", "m", "n"][:len(self.names)])


@functools.lru_cache(None)
def wished_terms():
    """Triples of a term, wishes and weights, always the same ones."""
    dice = random.Random(7)
    found = []
    for term in small_terms()[::4] + nested_terms()[::8] + drawn_terms(150, 4) + drawn_terms(150, 4):
        binders = len(term.binders())
        wishes = [dice.choice(["x", "x", "x", "z", "ab", "q", None]) for _ in range(binders)]
        weights = [dice.choice([0, 1, 2, 3, 5, 8, 1000]) for _ in range(binders)]
        found.append((term, wishes, weights))
    return tuple(found)
