"""What comes of it if a binder's ahead term is put in the place of its uses."""

from livenames.errors import NoBinder
from livenames.making import with_leaves
from livenames.outcomes import Outcome
from livenames.terms import nodes_of
from livenames.walks import free_names, names_of, need_binder, uses_of
from livenames.words import first_names
from livenames.writing import written


def can_inline(term, binder):
    """Whether a binder has an ahead term."""
    need_binder(term, binder)
    return len(term[term.binders()[binder]][2]) > 0


def inline(term, binder):
    """The Term that comes of inlining a binder."""
    return outcome_of_inlining(term, binder).told_term()


def inline_renamed(term, binder):
    """The list of the binders that are renamed by this, ascending."""
    return outcome_of_inlining(term, binder).renamed()


def inline_catches(term, binder):
    """The catches that there were if no binder were renamed by this."""
    return outcome_of_inlining(term, binder).old_catches()


def outcome_of_inlining(term, binder):
    """The Outcome of inlining a binder."""
    if not can_inline(term, binder):
        raise NoBinder(binder)
    old = names_of(term)
    own = first_names(len(old), free_names(term))
    tree = inlined_tree(written(term, own), term.binders()[binder])
    return Outcome(tree, dict(zip(own, old)))


def inlined_tree(host, index):
    """The tree of a host by own names, in which the binder at a node is inlined."""
    own = host[index][1]
    ahead = host[index][2]
    body = index + 1 + sum([len(nodes_of(tree)) for tree in ahead])
    nodes = host.listed()[:index] + host.listed()[body:]
    # No copy is within another one, so that the binders of all of them may have the same own names.
    return with_leaves(nodes, [ahead[0] if node == ("use", own) else node for node in nodes if node[0] == "use"])
