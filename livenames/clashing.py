"""Which binders and free names clash, so that they must not have one name."""

from livenames.terms import in_order, need_term
from livenames.walks import binders_between, need_binder, uses_met
from livenames.words import is_name, is_number
from livenames.writing import name_by, need_names


def live_at(term, binder):
    """The list of what is live at a binder: binders by their numbers, then free names in order."""
    need_binder(term, binder)
    return lives_of(term)[binder]


def clashes(term):
    """The list of the pairs (live one, binder) that clash, by the binders."""
    need_term(term)
    return [(one, binder) for binder, live in enumerate(lives_of(term)) for one in live]


def do_clash(term, one, other):
    """Whether two binders clash, either way."""
    need_binder(term, one)
    need_binder(term, other)
    lives = lives_of(term)
    return one in lives[other] or other in lives[one]


def hurt(term, names):
    """The list of the clashes in which a naming gives both one name."""
    need_names(term, names)
    return [(one, binder) for one, binder in clashes(term) if name_by(names, one) == names[binder]]


def lives_of(term):
    """For each binder, in order, the list of what is live at it."""
    found = [{} for _ in term.binders()]
    for around, meant in uses_met(term):
        for binder in binders_between(around, meant):
            found[binder][meant] = True
    return [in_live_order(live) for live in found]


def in_live_order(live):
    """The list of some binders and free names: binders by their numbers, then names in order."""
    binders = sorted([one for one in live if is_number(one)])
    return binders + in_order([one for one in live if is_name(one)])


def names_left(pool, live, names):
    """The list of the names of a pool, in its order, that nothing live at a binder has by a naming."""
    taken = [name_by(names, one) for one in live]
    return [name for name in pool if name not in taken]
