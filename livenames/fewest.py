"""The fewest names that are enough for a term, with a crowd of clashing ones as the paper."""

from livenames.clashing import lives_of, names_left
from livenames.terms import in_order, need_term
from livenames.walks import free_names, is_binder
from livenames.words import first_names, is_number
from livenames.writing import are_names, is_right


def width(term):
    """The fewest names of a right written term."""
    need_term(term)
    return len(crowd(term))


def fewest(term, *, apart=False):
    """The fewest names of a right written term; apart: by a naming apart from free names."""
    need_term(term)
    if apart is not True:
        return width(term)
    bound = [1 + len([one for one in live if is_number(one)]) for live in lives_of(term)]
    return len(free_names(term)) + max(bound, default=0)


def told_naming(term, *, apart=False):
    """The tuple of the first names that will do, binder by binder, for the fewest names."""
    need_term(term)
    free = free_names(term)
    pool = first_names(len(term.binders()), free)
    if apart is not True:
        pool = free + pool
    naming = []
    for live in lives_of(term):
        naming.append(names_left(pool, live, naming)[0])
    return tuple(naming)


def crowd(term):
    """A list of binders and free names that clash pairwise, as many as the width."""
    need_term(term)
    return crowd_at(term, widest_binder(term))


def fewest_paper(term):
    """The told naming, with a binder that shows that there are no fewer names."""
    need_term(term)
    return (told_naming(term), widest_binder(term))


def accepts_fewest(term, paper):
    """Whether any value is a right paper of the fewest names."""
    need_term(term)
    if not isinstance(paper, tuple) or len(paper) != 2:
        return False
    naming, binder = paper
    if not isinstance(naming, tuple) or not are_names(term, naming):
        return False
    if binder is not None and not is_binder(term, binder):
        return False
    return is_right(term, naming) and how_many_names(term, naming) == len(crowd_at(term, binder))


def widest_binder(term):
    """The first binder of those at which most are live; None if there are as many free names as these and it."""
    widest = None
    most = len(free_names(term))
    for binder, live in enumerate(lives_of(term)):
        if len(live) + 1 > most:
            widest = binder
            most = len(live) + 1
    return widest


def crowd_at(term, binder):
    """The list of what is live at a binder, and of this binder; the free names for None."""
    if binder is None:
        return free_names(term)
    return [*lives_of(term)[binder], binder]


def how_many_names(term, naming):
    """How many names the term has that is written by a naming."""
    return len(in_order([*naming, *free_names(term)]))
