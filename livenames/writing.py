"""Terms written by other names of their binders, and what these names catch."""

from livenames.errors import NoNames
from livenames.making import with_names
from livenames.places import clashing_places, names_by_place, places_meant
from livenames.terms import Term, need_term
from livenames.walks import binders_between, names_of, uses_met
from livenames.words import are_all_names


def are_names(term, value):
    """Whether any value is a list or tuple of as many names as a term has binders."""
    need_term(term)
    return isinstance(value, (list, tuple)) and len(value) == len(names_of(term)) and are_all_names(value)


def written(term, names):
    """The Term with other names at its binders, and at the uses that mean them."""
    need_names(term, names)
    named = names_by_place(term, names)
    return Term(with_names(term.listed(), names, [named[place] for place in places_meant(term)]))


def is_right(term, names):
    """Whether the term that is written by a naming is alike to the term."""
    need_names(term, names)
    return hurts_nothing(term, names)


def catches(term, names):
    """The list of the triples (use, binder, meant) of uses that a naming has a binder catch."""
    need_names(term, names)
    named = names_by_place(term, names)
    return [catch for place, binder, catch in term.once(find_between) if named[place] == named[binder]]


def need_names(term, value):
    """Raises NoNames for any value that is no naming of a term, right or wrong."""
    if not are_names(term, value):
        raise NoNames(value)


def need_right(term, value):
    """Raises NoNames for any value that is no right naming of a term."""
    if not is_right(term, value):
        raise NoNames(value)


def hurts_nothing(term, names):
    """Whether a naming is right: that is so just if it hurts no clash."""
    named = names_by_place(term, names)
    for place, binder, _ in clashing_places(term):
        if named[place] == named[binder]:
            return False
    return True


def find_between(term):
    """The list of the triples (place, binder, catch) of all catches that any naming of a Term may have, in order."""
    places = places_meant(term)
    found = []
    for use, (around, meant) in enumerate(uses_met(term)):
        for binder in binders_between(around, meant):
            found.append((places[use], binder, (use, binder, meant)))
    return found
