"""What comes of it if a binder's ahead term is put in the place of its uses."""

from livenames.errors import NoBinder
from livenames.making import with_leaves, with_names_by
from livenames.outcomes import Outcome
from livenames.terms import nodes_of
from livenames.walks import free_names, names_of, need_binder, uses_of
from livenames.words import first_names
from livenames.writing import written


def can_inline(term, binder):
    """Whether a binder has an ahead term."""
    need_binder(term, binder)
    return len(term[term.binders()[binder]][2]) > 0


def inline(term, binder):
    """The Term that comes of inlining a binder."""
    return outcome_of_inlining(term, binder).told_term()


def inline_renamed(term, binder):
    """The list of the binders that are renamed by this, ascending."""
    return outcome_of_inlining(term, binder).renamed()


def inline_catches(term, binder):
    """The catches that there were if no binder were renamed by this."""
    return outcome_of_inlining(term, binder).old_catches()


def outcome_of_inlining(term, binder):
    """The Outcome of inlining a binder."""
    if not can_inline(term, binder):
        raise NoBinder(binder)
    index = term.binders()[binder]
    many = len(uses_of(term, binder))
    binders = len(names_of(term))
    old = list(names_of(term)) + binder_names(term[index][2][0]) * many
    own = first_names(len(old), free_names(term))
    host = written(term, own[:binders])
    copies = copies_of(host[index][2][0], many, own[binders:])
    return Outcome(inlined_tree(host, index, copies), dict(zip(own, old)))


def inlined_tree(host, index, copies):
    """The tree of a host by own names, with copies for the uses of the binder at a node, and its body for this."""
    own = host[index][1]
    ahead = host[index][2]
    body = index + 1 + sum([len(nodes_of(tree)) for tree in ahead])
    nodes = host.listed()[:index] + host.listed()[body:]
    copies_left = copies[::-1]
    leaves = []
    for node in nodes:
        if node == ("use", own):
            leaves.append(copies_left.pop())
        elif node[0] == "use":
            leaves.append(node)
    return with_leaves(nodes, leaves)


def copies_of(tree, many, names):
    """The list of so many copies of a tree, each with others of these names at its binders."""
    inner = binder_names(tree)
    size = len(inner)
    tables = [dict(zip(inner, names[place * size:(place + 1) * size])) for place in range(many)]
    return [with_names_by(tree, table) for table in tables]


def binder_names(tree):
    """The list of the names of all binders of a tree, in order."""
    return [node[1] for node in nodes_of(tree) if node[0] == "bind"]
