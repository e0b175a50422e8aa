"""What comes of it if a binder's ahead term is put in the place of its uses."""

from livenames.errors import NoBinder
from livenames.making import with_names_by, with_trees
from livenames.outcomes import Outcome
from livenames.terms import nodes_of
from livenames.walks import free_names, names_of, need_binder, uses_of
from livenames.words import first_names
from livenames.writing import written


def can_inline(term, binder):
    """Whether a binder has an ahead term."""
    need_binder(term, binder)
    return len(term[term.binders()[binder]][2]) > 0


def inline(term, binder):
    """The Term that comes of inlining a binder."""
    return outcome_of_inlining(term, binder).told_term()


def inline_renamed(term, binder):
    """The list of the binders that are renamed by this, ascending."""
    return outcome_of_inlining(term, binder).renamed()


def inline_catches(term, binder):
    """The catches that there were if no binder were renamed by this."""
    return outcome_of_inlining(term, binder).old_catches()


def outcome_of_inlining(term, binder):
    """The Outcome of inlining a binder."""
    if not can_inline(term, binder):
        raise NoBinder(binder)
    index = term.binders()[binder]
    uses = [term.uses()[use] for use in uses_of(term, binder)]
    old = [*names_of(term), *binder_names(term[index][2][0]) * len(uses)]
    own = first_names(len(old), free_names(term))
    host = written(term, own[:len(term.binders())])
    copies = copies_of(host[index][2][0], len(uses), own[len(term.binders()):])
    tree = with_trees(host.tree(), dict(zip(uses, copies)))
    # All copies are in the body, behind the binder, so that it has its number still.
    return Outcome(with_trees(tree, {index: nodes_of(tree)[index][3]}), dict(zip(own, old)))


def copies_of(tree, many, names):
    """The list of so many copies of a tree, each with others of these names at its binders."""
    inner = binder_names(tree)
    size = len(inner)
    tables = [dict(zip(inner, names[place * size:(place + 1) * size])) for place in range(many)]
    return [with_names_by(tree, table) for table in tables]


def binder_names(tree):
    """The list of the names of all binders of a tree, in order."""
    return [node[1] for node in nodes_of(tree) if node[0] == "bind"]
