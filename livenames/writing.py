"""Terms written by other names of their binders, and what these names catch."""

from livenames.errors import NoNames
from livenames.making import with_names
from livenames.terms import Term, need_term
from livenames.walks import alike, binders_between, meaning, uses_met
from livenames.words import is_name, is_number


def are_names(term, value):
    """Whether any value is a list or tuple of as many names as a term has binders."""
    need_term(term)
    if not isinstance(value, (list, tuple)) or len(value) != len(term.binders()):
        return False
    return all([is_name(name) for name in value])


def written(term, names):
    """The Term with other names at its binders, and at the uses that mean them."""
    need_names(term, names)
    used = [name_by(names, meant) for meant in meaning(term)]
    return Term(with_names(term.listed(), names, used))


def is_right(term, names):
    """Whether the term that is written by a naming is alike to the term."""
    return alike(term, written(term, names))


def catches(term, names):
    """The list of the triples (use, binder, meant) of uses that a naming has a binder catch."""
    need_names(term, names)
    return [
        (use, binder, meant)
        for use, (around, meant) in enumerate(uses_met(term))
        for binder in binders_between(around, meant)
        if names[binder] == name_by(names, meant)
    ]


def need_names(term, value):
    """Raises NoNames for any value that is no naming of a term, right or wrong."""
    if not are_names(term, value):
        raise NoNames(value)


def need_right(term, value):
    """Raises NoNames for any value that is no right naming of a term."""
    if not is_right(term, value):
        raise NoNames(value)


def name_by(names, meant):
    """The name that a binder has by a naming; a free name stays."""
    if is_number(meant):
        return names[meant]
    return meant
