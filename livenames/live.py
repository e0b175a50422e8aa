"""A live term, which is changed deed by deed, with undo."""

from livenames.errors import NoBinder, NoNames, NoNode, NothingBack
from livenames.fewest import told_naming
from livenames.inlining import can_inline, inline
from livenames.making import tree_met
from livenames.putting import put
from livenames.terms import Term, need_term
from livenames.walks import free_names, names_of, need_binder, uses_of
from livenames.words import first_names, is_name, is_number_below
from livenames.writing import is_right, written


class Live:
    """A term that goes on by deeds, each of which can be undone."""

    def __init__(self, term):
        need_term(term)
        self._term = term
        self._past = []

    def kept(self):
        """The Term as it is now."""
        return self._term

    def named(self):
        """The tuple of the names of its binders."""
        return names_of(self._term)

    def rename(self, binder, name):
        """Gives a binder another name, by which the naming is right still."""
        self._go_on(with_name(self._term, binder, name))

    def tune(self):
        """Gives all binders the told naming, of the fewest names."""
        self._go_on(written(self._term, told_naming(self._term)))

    def put(self, number, other, links):
        """Puts a guest for a use."""
        self._go_on(put(self._term, number, other, links))

    def inline(self, binder):
        """Puts a binder's first ahead term for its uses."""
        self._go_on(inline(self._term, binder))

    def wrap(self, index, name):
        """Puts a new binder round a node, of this name if it catches nothing."""
        self._go_on(wrapped(self._term, index, name))

    def unwrap(self, binder):
        """Puts its body for a binder that has no uses and no ahead terms."""
        self._go_on(unwrapped(self._term, binder))

    def undo(self):
        """Takes the last deed back."""
        if len(self._past) == 0:
            raise NothingBack(0)
        self._term = self._past.pop()

    def __len__(self):
        return len(self._past)

    def twin(self):
        """Another live term, that tells the same and goes on by itself."""
        other = Live(self._term)
        other._past = list(self._past)
        return other

    def trial(self):
        """A Trial of this live term."""
        return Trial(self)

    def trying(self, guest, *, kept=False):
        """What a guest returns, called with this live term in a trial, which is kept just if kept is True."""
        trial = self.trial()
        with trial as live:
            answer = guest(live)
            if kept is True:
                trial.keep()
        return answer

    def _go_on(self, term):
        """Takes the term that comes of a deed, and keeps the one ahead of it."""
        self._past.append(self._term)
        self._term = term


class Trial:
    """A block of deeds of a live term, which are taken back behind it unless they are kept."""

    def __init__(self, live):
        self._live = live
        self._term = None
        self._past = None
        self._wanted = None

    def keep(self):
        """Lets the deeds be kept, if no exception leaves the block."""
        self._wanted = True

    def __enter__(self):
        live = self._live
        self._term = live._term
        self._past = list(live._past)
        return live

    def __exit__(self, kind, value, trace):
        live = self._live
        if kind is not None or self._wanted is None:
            live._term = self._term
            live._past = self._past


def with_name(term, binder, name):
    """The Term with another name of a binder, if this is right."""
    need_binder(term, binder)
    naming = list(names_of(term))
    naming[binder] = name
    if not is_name(name) or not is_right(term, naming):
        raise NoNames(name)
    return written(term, naming)


def wrapped(term, index, name):
    """The Term with a new binder round a node, of this name if the naming is right then."""
    if not is_number_below(index, len(term)):
        raise NoNode(index)
    if not is_name(name):
        raise NoNames(name)
    names = names_of(term)
    others = first_names(1, [*free_names(term), *names])
    nodes = term.listed()
    nodes.insert(index, ("bind", others[0], (), term[index]))
    made = Term(tree_met(nodes))
    binder = made.binders().index(index)
    naming = [*names[:binder], name, *names[binder:]]
    if is_right(made, naming):
        return written(made, naming)
    return made


def unwrapped(term, binder):
    """The Term with its body in the place of a binder without uses and without ahead terms."""
    if can_inline(term, binder) or len(uses_of(term, binder)) > 0:
        raise NoBinder(binder)
    nodes = term.listed()
    nodes.pop(term.binders()[binder])
    return Term(tree_met(nodes))
