"""What comes of it if a term is put into another one."""

from livenames.errors import NoLinks, NoUse
from livenames.making import remade, with_names
from livenames.outcomes import Outcome
from livenames.places import names_by_place, places_meant
from livenames.terms import need_term
from livenames.walks import binders_around, free_names, names_of
from livenames.words import first_names, is_number, is_number_below


def are_links(term, number, other, value):
    """Whether any value are links of a guest that is put for a use of a term."""
    need_place(term, number, other)
    if not isinstance(value, dict):
        return False
    free = free_names(other)
    if len(value) != len(free) or not all([name in value for name in free]):
        return False
    around = binders_around(term, term.uses()[number])
    return all([link is None or is_number(link) and link in around for link in value.values()])


def put(term, number, other, links):
    """The Term that comes of putting a guest for a use of a term."""
    return outcome_of_putting(term, number, other, links).told_term()


def put_renamed(term, number, other, links):
    """The list of the binders that are renamed by this, ascending."""
    return outcome_of_putting(term, number, other, links).renamed()


def put_catches(term, number, other, links):
    """The catches that there were if no binder were renamed by this."""
    return outcome_of_putting(term, number, other, links).old_catches()


def need_place(term, number, other):
    """Raises NoTerm or NoUse unless these are two terms and the number of a use of the first one."""
    need_term(term)
    need_term(other)
    if not is_number_below(number, len(term.uses())):
        raise NoUse(number)


def outcome_of_putting(term, number, other, links):
    """The Outcome of putting a guest for a use of a term."""
    if not are_links(term, number, other, links):
        raise NoLinks(links)
    old = names_of(term) + names_of(other)
    own = first_names(len(old), free_names(term) + free_names(other))
    host_own = own[:len(names_of(term))]
    guest_own = own[len(names_of(term)):]
    # By own names, no binder catches what is linked, or left free.
    linked = [name if links[name] is None else own[links[name]] for name in free_names(other)]
    guest_named = guest_own + linked
    host_named = names_by_place(term, host_own)
    leaves = [("use", host_named[place]) for place in places_meant(term)]
    leaves[number] = with_names(other.listed(), guest_own, [guest_named[place] for place in places_meant(other)])
    return Outcome(remade(term.listed(), [("bind", name) for name in host_own], leaves), dict(zip(own, old)))
