"""What the uses of a term mean, and which binders are around its nodes."""

from livenames.errors import NoBinder, NoNode
from livenames.making import remade
from livenames.terms import in_order, need_term
from livenames.words import is_number, is_number_below


def names_of(term):
    """The tuple of the names of a term's binders, in order."""
    need_term(term)
    return term.once(find_names)


def free_names(term):
    """The list of the free names of a term, in order."""
    need_term(term)
    return list(term.once(find_free_names))


def binders_around(term, index):
    """The list of the numbers of the binders that a node is within, ascending."""
    need_term(term)
    if not is_number_below(index, len(term)):
        raise NoNode(index)
    return list(term.once(find_around)[index])


def meaning(term):
    """For each use, in order, the number of the binder that it means, or its free name."""
    need_term(term)
    return list(term.once(find_meaning))


def uses_of(term, binder):
    """The list of the numbers of the uses that mean a binder, ascending."""
    need_binder(term, binder)
    return [use for use, meant in enumerate(term.once(find_meaning)) if meant == binder]


def shape_of(term):
    """The tree of a term with None in the place of all names of binders and uses."""
    need_term(term)
    return term.once(find_shape)


def alike(one, other):
    """Whether two terms have one shape and each use means the same in both."""
    need_term(one)
    need_term(other)
    return one.once(find_meaning) == other.once(find_meaning) and one.once(find_shape) == other.once(find_shape)


def is_binder(term, value):
    """Whether any value is the number of a binder of a term."""
    return is_number_below(value, len(term.once(find_names)))


def need_binder(term, value):
    """Raises NoBinder for any value that is not the number of a binder of a term."""
    need_term(term)
    if not is_binder(term, value):
        raise NoBinder(value)


def uses_met(term):
    """For each use, in order, the pair of the tuple of the binders that it is within and of what it means."""
    return term.once(find_uses_met)


def binders_between(around, meant):
    """The list of the binders around a use that are within what it means; all of them, if it is free."""
    if not is_number(meant):
        return list(around)
    # Binders around one node are within one another by rising numbers.
    return [binder for binder in around if binder > meant]


def find_names(term):
    """The tuple of the names of a Term's binders, in order."""
    return tuple([node[1] for node in term if node[0] == "bind"])


def find_around(term):
    """For each node of a Term, in order, the tuple of the numbers of the binders around it."""
    met = []
    binders = 0
    waiting = [(term.tree(), ())]
    while waiting:
        node, around = waiting.pop()
        met.append(around)
        if node[0] == "bind":
            waiting.append((node[3], (*around, binders)))
            binders += 1
        if node[0] != "use":
            # The leftmost one goes on top, as it is met next.
            waiting.extend([(tree, around) for tree in node[2][::-1]])
    return met


def find_uses_met(term):
    """For each use of a Term, in order, the pair of the tuple of the binders around it and of what it means."""
    met = []
    binders = 0
    # Beside each tree that waits, the binders around it, and for each of their names the last one of this name.
    waiting = [(term.tree(), (), {})]
    while waiting:
        node, around, lasts = waiting.pop()
        if node[0] == "use":
            met.append((around, lasts.get(node[1], node[1])))
        if node[0] == "bind":
            waiting.append((node[3], (*around, binders), {**lasts, node[1]: binders}))
            binders += 1
        if node[0] != "use":
            # The leftmost one goes on top, as it is met next.
            waiting.extend([(tree, around, lasts) for tree in node[2][::-1]])
    return met


def find_meaning(term):
    """For each use of a Term, in order, the number of the binder that it means, or its free name."""
    return [meant for _, meant in uses_met(term)]


def find_free_names(term):
    """The list of the free names of a Term, in order."""
    return in_order([meant for _, meant in uses_met(term) if not is_number(meant)])


def find_shape(term):
    """The tree of a Term with None in the place of all names of binders and uses."""
    return remade(term.listed(), [("bind", None)] * len(term.binders()), [("use", None)] * len(term.uses()))
