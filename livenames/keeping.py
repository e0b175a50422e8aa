"""Wished names with weights, and the most weight that a right naming keeps."""

from livenames.errors import NoWeights, NoWishes
from livenames.places import inner_binders, live_parts
from livenames.terms import need_term
from livenames.walks import free_names, names_of
from livenames.words import are_all_names, first_names, is_number_below
from livenames.writing import need_right

MOST_WEIGHT = 1000


def are_wishes(term, value):
    """Whether any value is a list or tuple of a name or None for each binder."""
    return is_row(term, value) and are_all_names([wish for wish in value if wish is not None])


def are_weights(term, value):
    """Whether any value is a list or tuple of a weight for each binder."""
    return is_row(term, value) and all([is_number_below(weight, MOST_WEIGHT + 1) for weight in value])


def kept_by(term, wishes, names):
    """The list of the binders that have their wishes by a right naming, ascending."""
    need_wishes(term, wishes)
    need_right(term, names)
    return binders_with_wishes(wishes, names)


def kept_weight(term, wishes, weights, names):
    """How much weight a right naming keeps."""
    need_wishes(term, wishes)
    need_weights(term, weights)
    need_right(term, names)
    return sum([weights[binder] for binder in binders_with_wishes(wishes, names)])


def told_kept(term, wishes, weights):
    """The tuple of a right naming that keeps the most weight."""
    need_wishes(term, wishes)
    need_weights(term, weights)
    return naming_that_keeps(term, wishes, weights, names_of(term))


def most_kept(term, wishes, weights):
    """The most weight that a right naming keeps."""
    need_wishes(term, wishes)
    need_weights(term, weights)
    return sum([weights[binder] for binder in told_binders(term, wishes, weights)])


def shared(term):
    """A list of binders, as many as can be, ascending, that can all have one name that is not free."""
    need_term(term)
    binders = len(names_of(term))
    # Whatever one wish they all have: only free names stand in the way of some wishes.
    wishes = ["one"] * binders
    return binders_for(term, wishes, prices_for(term, wishes, [1] * binders))


def is_row(term, value):
    """Whether any value is a list or tuple of as many items as a term has binders."""
    need_term(term)
    return isinstance(value, (list, tuple)) and len(value) == len(names_of(term))


def need_wishes(term, value):
    """Raises NoWishes for any value that is not the wishes for a term's binders."""
    if not are_wishes(term, value):
        raise NoWishes(value)


def need_weights(term, value):
    """Raises NoWeights for any value that is not the weights of a term's binders."""
    if not are_weights(term, value):
        raise NoWeights(value)


def binders_with_wishes(wishes, names):
    """The list of the binders that have their wishes by a naming, ascending."""
    return [binder for binder, name in enumerate(names) if wishes[binder] == name]


def naming_that_keeps(term, wishes, weights, names):
    """The told naming of a term whose binders are taken by these names."""
    kept = told_binders(term, wishes, weights)
    wished = [wish for wish in wishes if wish is not None]
    others = first_names(len(wishes), [*free_names(term), *wished, *names])[::-1]
    naming = []
    for binder, wish in enumerate(wishes):
        if binder in kept:
            naming.append(wish)
        else:
            naming.append(others.pop())
    return tuple(naming)


def told_binders(term, wishes, weights):
    """The list of the binders that the told naming keeps, ascending."""
    allowed = wishes_allowed(term, wishes)
    return binders_for(term, allowed, prices_for(term, allowed, weights))


def wishes_allowed(term, wishes):
    """For each binder its wish, or None if this is live at it as a free name."""
    return [None if wish in free else wish for wish, (_, free) in zip(wishes, live_parts(term))]


def prices_for(term, wishes, weights):
    """For each binder its price: the weight that those within it, of its wish, have not yet paid."""
    prices = [0] * len(wishes)
    for binder in reversed(range(len(wishes))):
        if wishes[binder] is not None:
            prices[binder] = max(0, weights[binder] - paid_within(term, wishes, prices, binder))
    return prices


def paid_within(term, wishes, prices, binder):
    """The prices of the others of a binder's wish at which it is live, together."""
    return sum([prices[inner] for inner in inner_binders(term)[binder] if wishes[inner] == wishes[binder]])


def binders_for(term, wishes, prices):
    """The list of the binders that are kept for their prices, ascending."""
    kept = {}
    for binder, (outer, _) in enumerate(live_parts(term)):
        rivals = [other for other in outer if other in kept and wishes[other] == wishes[binder]]
        if prices[binder] > 0 and len(rivals) == 0:
            kept[binder] = True
    return list(kept)
