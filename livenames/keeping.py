"""Wished names with weights, and the most weight that a right naming keeps."""

from livenames.clashing import lives_of
from livenames.errors import NoWeights, NoWishes
from livenames.terms import need_term
from livenames.walks import free_names, names_of
from livenames.words import first_names, is_name, is_number_below
from livenames.writing import need_right

MOST_WEIGHT = 1000


def are_wishes(term, value):
    """Whether any value is a list or tuple of a name or None for each binder."""
    return is_row(term, value) and all([wish is None or is_name(wish) for wish in value])


def are_weights(term, value):
    """Whether any value is a list or tuple of a weight for each binder."""
    return is_row(term, value) and all([is_number_below(weight, MOST_WEIGHT + 1) for weight in value])


def kept_by(term, wishes, names):
    """The list of the binders that have their wishes by a right naming, ascending."""
    need_wishes(term, wishes)
    need_right(term, names)
    return binders_with_wishes(wishes, names)


def kept_weight(term, wishes, weights, names):
    """How much weight a right naming keeps."""
    need_wishes(term, wishes)
    need_weights(term, weights)
    need_right(term, names)
    return sum([weights[binder] for binder in binders_with_wishes(wishes, names)])


def told_kept(term, wishes, weights):
    """The tuple of a right naming that keeps the most weight."""
    need_wishes(term, wishes)
    need_weights(term, weights)
    return naming_that_keeps(term, wishes, weights, names_of(term))


def most_kept(term, wishes, weights):
    """The most weight that a right naming keeps."""
    need_wishes(term, wishes)
    need_weights(term, weights)
    return sum([weights[binder] for binder in told_binders(term, wishes, weights)])


def shared(term):
    """A list of binders, as many as can be, ascending, that can all have one name that is not free."""
    need_term(term)
    lives = lives_of(term)
    # Whatever one wish they all have: only free names stand in the way of some wishes.
    wishes = ["one"] * len(lives)
    return binders_for(lives, wishes, prices_for(lives, wishes, [1] * len(lives)))


def is_row(term, value):
    """Whether any value is a list or tuple of as many items as a term has binders."""
    need_term(term)
    return isinstance(value, (list, tuple)) and len(value) == len(term.binders())


def need_wishes(term, value):
    """Raises NoWishes for any value that is not the wishes for a term's binders."""
    if not are_wishes(term, value):
        raise NoWishes(value)


def need_weights(term, value):
    """Raises NoWeights for any value that is not the weights of a term's binders."""
    if not are_weights(term, value):
        raise NoWeights(value)


def binders_with_wishes(wishes, names):
    """The list of the binders that have their wishes by a naming, ascending."""
    return [binder for binder, name in enumerate(names) if wishes[binder] == name]


def naming_that_keeps(term, wishes, weights, names):
    """The told naming of a term whose binders are taken by these names."""
    kept = told_binders(term, wishes, weights)
    wished = [wish for wish in wishes if wish is not None]
    others = first_names(len(wishes), [*free_names(term), *wished, *names])[::-1]
    naming = []
    for binder, wish in enumerate(wishes):
        if binder in kept:
            naming.append(wish)
        else:
            naming.append(others.pop())
    return tuple(naming)


def told_binders(term, wishes, weights):
    """The list of the binders that the told naming keeps, ascending."""
    lives = lives_of(term)
    allowed = wishes_allowed(lives, wishes)
    return binders_for(lives, allowed, prices_for(lives, allowed, weights))


def wishes_allowed(lives, wishes):
    """For each binder its wish, or None if this is live at it as a free name."""
    return [None if wish in live else wish for wish, live in zip(wishes, lives)]


def prices_for(lives, wishes, weights):
    """For each binder its price: the weight that those within it, of its wish, have not yet paid."""
    prices = [0] * len(lives)
    for binder in reversed(range(len(lives))):
        if wishes[binder] is not None:
            paid = sum([prices[inner] for inner in rivals_within(lives, wishes, binder)])
            prices[binder] = max(0, weights[binder] - paid)
    return prices


def rivals_within(lives, wishes, binder):
    """The list of the other binders of the wish of a binder at which it is live."""
    return [inner for inner, live in enumerate(lives) if binder in live and wishes[inner] == wishes[binder]]


def binders_for(lives, wishes, prices):
    """The list of the binders that are kept for their prices, ascending."""
    kept = []
    for binder, price in enumerate(prices):
        rivals = [outer for outer in kept if outer in lives[binder] and wishes[outer] == wishes[binder]]
        if price > 0 and len(rivals) == 0:
            kept.append(binder)
    return kept
