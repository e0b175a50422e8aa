"""The fewest names that are enough for a term, with a crowd of clashing ones as the paper."""

from livenames.clashing import lives_of
from livenames.places import live_places
from livenames.terms import need_term
from livenames.walks import free_names, is_binder, names_of
from livenames.words import first_names
from livenames.writing import are_names, hurts_nothing


def width(term):
    """The fewest names of a right written term."""
    need_term(term)
    return how_many_live(term, widest_binder(term))


def fewest(term, *, apart=False):
    """The fewest names of a right written term; apart: by a naming apart from free names."""
    need_term(term)
    if apart is not True:
        return width(term)
    binders = len(names_of(term))
    bound = [1 + len([place for place in live if place < binders]) for live in live_places(term)]
    return len(free_names(term)) + max(bound, default=0)


def told_naming(term, *, apart=False):
    """The tuple of the first names that will do, binder by binder, for the fewest names."""
    need_term(term)
    numbers = first_numbers(term, apart is True)
    free = free_names(term)
    pool = first_names(max(numbers, default=-1) + 1, free)
    if apart is not True:
        pool = free + pool
    return tuple([pool[number] for number in numbers])


def crowd(term):
    """A list of binders and free names that clash pairwise, as many as the width."""
    need_term(term)
    binder = widest_binder(term)
    if binder is None:
        return free_names(term)
    return [*lives_of(term)[binder], binder]


def fewest_paper(term):
    """The told naming, with a binder that shows that there are no fewer names."""
    need_term(term)
    return (told_naming(term), widest_binder(term))


def accepts_fewest(term, paper):
    """Whether any value is a right paper of the fewest names."""
    need_term(term)
    if not isinstance(paper, tuple) or len(paper) != 2:
        return False
    naming, binder = paper
    if not isinstance(naming, tuple) or not are_names(term, naming):
        return False
    if binder is not None and not is_binder(term, binder):
        return False
    many = len(set([*naming, *free_names(term)]))
    return many == how_many_live(term, binder) and hurts_nothing(term, naming)


def widest_binder(term):
    """The first binder of those at which most are live; None if there are as many free names as these and it."""
    widest = None
    most = len(free_names(term))
    for binder, live in enumerate(live_places(term)):
        if len(live) + 1 > most:
            widest = binder
            most = len(live) + 1
    return widest


def how_many_live(term, binder):
    """How many are live at a binder, and this binder; how many free names there are for None."""
    if binder is None:
        return len(free_names(term))
    return len(live_places(term)[binder]) + 1


def first_numbers(term, apart):
    """For each binder the first place in the pool whose name nobody live at it has; free names come first in it."""
    binders = len(names_of(term))
    numbers = []
    for live in live_places(term):
        taken = [numbers[place] for place in live if place < binders]
        if not apart:
            taken.extend([place - binders for place in live if place >= binders])
        number = 0
        while number in taken:
            number += 1
        numbers.append(number)
    return numbers
