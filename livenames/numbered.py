"""Terms written without names of binders, by numbers, and back."""

from livenames.errors import NoForm, TooMany
from livenames.fewest import told_naming
from livenames.making import remade, with_names
from livenames.terms import Term, need_term, trees_below
from livenames.walks import binders_between, nodes_met, uses_met
from livenames.words import first_names, is_name, is_number, is_number_below
from livenames.writing import written

# How many parts the tuple of a form's node has, for each kind of node.
FORM_SIZES = {"use": 2, "join": 3, "bind": 3}


def numbered(term):
    """The numbered form of a term."""
    need_term(term)
    leaves = [("use", numbered_use(around, meant)) for around, meant in uses_met(term)]
    return remade(term.listed(), [("bind",)] * len(term.binders()), leaves)


def is_form(value):
    """Whether any value is the numbered form of a term within the limits."""
    if not is_form_of_any_size(value):
        return False
    try:
        term_by_own_names(value)
    except TooMany:
        return False
    return True


def from_form(form):
    """The Term that a numbered form tells, written by its told naming."""
    if not is_form_of_any_size(form):
        raise NoForm(form)
    term = term_by_own_names(form)
    return written(term, told_naming(term))


def numbered_use(around, meant):
    """What a use has in a form: how many binders are between it and the one it means, or its free name."""
    if is_number(meant):
        return len(binders_between(around, meant))
    return meant


def is_form_of_any_size(value):
    """Whether any value is a numbered form, within the limits or beyond."""
    waiting = [(value, 0)]
    # By a list of what waits and not by recursion, so that a deep value does no harm.
    while waiting:
        node, around = waiting.pop()
        if not has_form(node, around):
            return False
        below = [(tree, around) for tree in trees_below(node)]
        if node[0] == "bind":
            below[-1] = (node[-1], around + 1)
        waiting.extend(below)
    return True


def has_form(value, around):
    """Whether any value is made as a form's node is within so many binders, whatever the parts below it are."""
    if not isinstance(value, tuple) or len(value) == 0:
        return False
    kind = value[0]
    if not isinstance(kind, str) or FORM_SIZES.get(kind) != len(value):
        return False
    if kind == "use":
        return is_name(value[1]) or is_number_below(value[1], around)
    if kind == "join":
        return is_name(value[1]) and isinstance(value[2], tuple)
    return isinstance(value[1], tuple)


def term_by_own_names(form):
    """The Term that a form tells, each of its binders with a name of its own that is not free."""
    met = nodes_met(form)
    uses = [(node[1], around) for node, around in met if node[0] == "use"]
    binders = [node for node, _ in met if node[0] == "bind"]
    own = first_names(len(binders), [told for told, _ in uses if is_name(told)])
    used = [own[around[-1 - told]] if is_number(told) else told for told, around in uses]
    return Term(with_names([node for node, _ in met], own, used))
