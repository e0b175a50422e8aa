"""Which binders and free names clash, so that they must not have one name."""

from livenames.places import clashing_places, live_places, names_by_place, ones_by_place
from livenames.terms import need_term
from livenames.walks import need_binder
from livenames.writing import need_names


def live_at(term, binder):
    """The list of what is live at a binder: binders by their numbers, then free names in order."""
    need_binder(term, binder)
    return list(lives_of(term)[binder])


def clashes(term):
    """The list of the pairs (live one, binder) that clash, by the binders."""
    need_term(term)
    return [(one, binder) for _, binder, one in clashing_places(term)]


def do_clash(term, one, other):
    """Whether two binders clash, either way."""
    need_binder(term, one)
    need_binder(term, other)
    lives = live_places(term)
    return one in lives[other] or other in lives[one]


def hurt(term, names):
    """The list of the clashes in which a naming gives both one name."""
    need_names(term, names)
    named = names_by_place(term, names)
    return [(one, binder) for place, binder, one in clashing_places(term) if named[place] == named[binder]]


def lives_of(term):
    """For each binder, in order, the list of what is live at it."""
    return term.once(find_lives)


def find_lives(term):
    """For each binder of a Term, in order, the list of what is live at it."""
    ones = ones_by_place(term)
    return [[ones[place] for place in live] for live in live_places(term)]
