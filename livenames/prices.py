"""Prices for wished names: a paper of the most weight that can be kept."""

from livenames.keeping import (
    is_row, kept_weight, need_weights, need_wishes, paid_within, prices_for, told_kept, wishes_allowed,
)
from livenames.words import is_number
from livenames.writing import are_names, is_right


def told_prices(term, wishes, weights):
    """The list of the prices of the told naming, 0 for binders without one."""
    need_wishes(term, wishes)
    need_weights(term, weights)
    return prices_for(term, wishes_allowed(term, wishes), weights)


def are_prices(term, wishes, weights, value):
    """Whether any value are prices for these wishes and weights."""
    need_wishes(term, wishes)
    need_weights(term, weights)
    if not isinstance(value, list) or not is_row(term, value):
        return False
    if not all([is_number(price) and price >= 0 for price in value]):
        return False
    allowed = wishes_allowed(term, wishes)
    return all([does_pay(term, allowed, weights, value, binder) for binder in range(len(value))])


def kept_paper(term, wishes, weights):
    """The told naming and its prices."""
    return (told_kept(term, wishes, weights), told_prices(term, wishes, weights))


def accepts_kept(term, wishes, weights, paper):
    """Whether any value is a right paper of what is kept."""
    need_wishes(term, wishes)
    need_weights(term, weights)
    if not isinstance(paper, tuple) or len(paper) != 2:
        return False
    naming, prices = paper
    if not isinstance(naming, tuple) or not are_names(term, naming) or not is_right(term, naming):
        return False
    if not are_prices(term, wishes, weights, prices):
        return False
    return kept_weight(term, wishes, weights, naming) == sum(prices)


def does_pay(term, wishes, weights, prices, binder):
    """Whether the prices pay a binder's weight; without a wish that can be kept, whether there is no price."""
    if wishes[binder] is None:
        return prices[binder] == 0
    return prices[binder] + paid_within(term, wishes, prices, binder) >= weights[binder]
