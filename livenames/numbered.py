"""Terms written without names of binders, by numbers, and back."""

from livenames.errors import NoForm
from livenames.fewest import told_naming
from livenames.making import remade, with_names
from livenames.terms import Term, limit_broken, need_term
from livenames.walks import binders_between, uses_met
from livenames.words import are_all_names, first_names, is_number, is_number_below
from livenames.writing import written


def numbered(term):
    """The numbered form of a term."""
    need_term(term)
    leaves = [("use", numbered_use(around, meant)) for around, meant in uses_met(term)]
    return remade(term.listed(), [("bind",)] * len(term.binders()), leaves)


def is_form(value):
    """Whether any value is the numbered form of a term within the limits."""
    met = nodes_if_form(value)
    return len(met) > 0 and limit_broken([node for node, _ in met]) is None


def from_form(form):
    """The Term that a numbered form tells, written by its told naming."""
    met = nodes_if_form(form)
    if len(met) == 0:
        raise NoForm(form)
    term = term_by_own_names(met)
    return written(term, told_naming(term))


def numbered_use(around, meant):
    """What a use has in a form: how many binders are between it and the one it means, or its free name."""
    if is_number(meant):
        return len(binders_between(around, meant))
    return meant


def nodes_if_form(value):
    """For each node of a numbered form, in order, the pair of it and its binders around; none for any other value."""
    met = []
    names = []
    binders = 0
    waiting = [(value, ())]
    # By a list of what waits and not by recursion, so that a deep value does no harm.
    while waiting:
        node, around = waiting.pop()
        if not isinstance(node, tuple) or len(node) == 0 or not isinstance(node[0], str):
            return []
        if node[0] == "use" and len(node) == 2:
            if isinstance(node[1], str):
                names.append(node[1])
            elif not is_number_below(node[1], len(around)):
                return []
        elif node[0] == "join" and len(node) == 3 and isinstance(node[2], tuple):
            names.append(node[1])
            # The leftmost one goes on top, as it is met next.
            waiting.extend([(tree, around) for tree in node[2][::-1]])
        elif node[0] == "bind" and len(node) == 3 and isinstance(node[1], tuple):
            waiting.append((node[2], (*around, binders)))
            waiting.extend([(tree, around) for tree in node[1][::-1]])
            binders += 1
        else:
            return []
        met.append((node, around))
    if are_all_names(names):
        return met
    return []


def term_by_own_names(met):
    """The Term of a form's nodes and their binders around, each binder with a name of its own that is not free."""
    uses = [(node[1], around) for node, around in met if node[0] == "use"]
    binders = [node for node, _ in met if node[0] == "bind"]
    own = first_names(len(binders), [told for told, _ in uses if not is_number(told)])
    used = [own[around[-1 - told]] if is_number(told) else told for told, around in uses]
    return Term(with_names([node for node, _ in met], own, used))
