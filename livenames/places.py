"""What the uses of a term mean, by places: those of binders are their numbers, those of free names come behind."""

from livenames.walks import free_names, names_of, uses_met


def ones_by_place(term):
    """The list of all that uses of a term may mean, by places: binders by their numbers, then free names in order."""
    return term.once(find_ones)


def names_by_place(term, naming):
    """The list of the names that binders have by a naming, and of the free names, by places."""
    return [*naming, *ones_by_place(term)[len(naming):]]


def places_meant(term):
    """For each use, in order, the place of what it means."""
    return term.once(find_places)


def live_places(term):
    """For each binder, in order, the list of the places of what is live at it, ascending."""
    return term.once(find_live_places)


def clashing_places(term):
    """The list of the triples (place, binder, one) of all that clash, by the binders; one is what has the place."""
    return term.once(find_clashing_places)


def find_ones(term):
    """The list of the numbers of a Term's binders, and of its free names."""
    return list(range(len(names_of(term)))) + free_names(term)


def find_places(term):
    """For each use of a Term, in order, the place of what it means."""
    places = {one: place for place, one in enumerate(ones_by_place(term))}
    return [places[meant] for _, meant in uses_met(term)]


def find_live_places(term):
    """For each binder of a Term, in order, the list of the places of what is live at it, ascending."""
    found = [{} for _ in names_of(term)]
    for (around, meant), place in zip(uses_met(term), places_meant(term)):
        for binder in around[::-1]:
            # The binders that are left are around the one that is meant.
            if binder == meant:
                break
            found[binder][place] = True
    return [sorted(live) for live in found]


def find_clashing_places(term):
    """The list of the triples (place, binder, one) of all of a Term that clash, by the binders."""
    ones = ones_by_place(term)
    lives = live_places(term)
    return [(place, binder, ones[place]) for binder, live in enumerate(lives) for place in live]


def live_parts(term):
    """For each binder, in order, the pair of the list of the binders and the list of the free names live at it."""
    return term.once(find_live_parts)


def find_live_parts(term):
    """For each binder of a Term the pair of the list of the binders and the list of the free names live at it."""
    ones = ones_by_place(term)
    binders = len(names_of(term))
    return [
        ([place for place in live if place < binders], [ones[place] for place in live if place >= binders])
        for live in live_places(term)
    ]


def inner_binders(term):
    """For each binder, in order, the list of the binders at which it is live, ascending."""
    return term.once(find_inner_binders)


def find_inner_binders(term):
    """For each binder of a Term, in order, the list of the binders at which it is live, ascending."""
    found = [[] for _ in names_of(term)]
    for inner, (binders, _) in enumerate(live_parts(term)):
        for binder in binders:
            found[binder].append(inner)
    return found
