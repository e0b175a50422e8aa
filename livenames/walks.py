"""What the uses of a term mean, and which binders are around its nodes."""

from livenames.errors import NoBinder, NoNode
from livenames.making import with_names
from livenames.terms import in_order, need_term, trees_below
from livenames.words import is_name, is_number, is_number_below


def names_of(term):
    """The tuple of the names of a term's binders, in order."""
    need_term(term)
    return tuple([term[index][1] for index in term.binders()])


def free_names(term):
    """The list of the free names of a term, in order."""
    return in_order([meant for meant in meaning(term) if is_name(meant)])


def binders_around(term, index):
    """The list of the numbers of the binders that a node is within, ascending."""
    need_term(term)
    if not is_number_below(index, len(term)):
        raise NoNode(index)
    _, around = nodes_met(term.tree())[index]
    return list(around)


def meaning(term):
    """For each use, in order, the number of the binder that it means, or its free name."""
    need_term(term)
    return [meant for _, meant in uses_met(term)]


def uses_of(term, binder):
    """The list of the numbers of the uses that mean a binder, ascending."""
    need_binder(term, binder)
    return [use for use, meant in enumerate(meaning(term)) if meant == binder]


def shape_of(term):
    """The tree of a term with None in the place of all names of binders and uses."""
    need_term(term)
    return with_names(term.listed(), [None] * len(term.binders()), [None] * len(term.uses()))


def alike(one, other):
    """Whether two terms have one shape and each use means the same in both."""
    need_term(one)
    need_term(other)
    return shape_of(one) == shape_of(other) and meaning(one) == meaning(other)


def is_binder(term, value):
    """Whether any value is the number of a binder of a term."""
    return is_number_below(value, len(term.binders()))


def need_binder(term, value):
    """Raises NoBinder for any value that is not the number of a binder of a term."""
    need_term(term)
    if not is_binder(term, value):
        raise NoBinder(value)


def nodes_met(tree):
    """For each node of a tree or a numbered form, in order, the pair of it and the tuple of the binders around it."""
    met = []
    binders = 0
    waiting = [(tree, ())]
    while waiting:
        node, around = waiting.pop()
        met.append((node, around))
        below = [(tree, around) for tree in trees_below(node)]
        if node[0] == "bind":
            # The body comes last, and it alone is within the binder.
            below[-1] = (node[-1], (*around, binders))
            binders += 1
        # The leftmost one goes on top, as it is met next.
        waiting.extend(below[::-1])
    return met


def uses_met(term):
    """For each use, in order, the pair of the tuple of the binders that it is within and of what it means."""
    names = names_of(term)
    return [(around, meant_by(node[1], around, names)) for node, around in nodes_met(term.tree()) if node[0] == "use"]


def meant_by(name, around, names):
    """The last one of the binders around a use that has its name; if there is none, this name."""
    for binder in around[::-1]:
        if names[binder] == name:
            return binder
    return name


def binders_between(around, meant):
    """The list of the binders around a use that are within what it means; all of them, if it is free."""
    # Binders around one node are within one another by rising numbers.
    return [binder for binder in around if not is_number(meant) or binder > meant]
