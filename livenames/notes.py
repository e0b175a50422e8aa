"""Terms and numbered forms written in texts, and terms read from them."""

from livenames.errors import NoForm, NoNote
from livenames.numbered import is_form
from livenames.terms import Term, need_term, nodes_of, trees_below
from livenames.words import is_name


def write_term(term):
    """The text of a term."""
    need_term(term)
    return text_of(term.listed())


def read_term(text):
    """The Term of a text."""
    if not isinstance(text, str):
        raise NoNote(None)
    return Term(Reader(text).tree())


def write_form(form):
    """The text of a numbered form."""
    if not is_form(form):
        raise NoForm(form)
    return text_of(nodes_of(form))


def text_of(nodes):
    """The text of the tree, or the form, of some nodes."""
    made = []
    # From the last node to the first one, so that what is below a node is made ahead of it.
    for node in nodes[::-1]:
        below = [made.pop() for _ in trees_below(node)]
        made.append(text_with(node, below))
    return made[0]


def text_with(node, below):
    """The text of a node, from the texts of all directly below it."""
    if node[0] == "use":
        return str(node[1])
    if node[0] == "join":
        return node[1] + "(" + ",".join(below) + ")"
    # A form's binder has no name.
    return "{" + "|".join([*node[1:-2], ",".join(below[:-1]), below[-1]]) + "}"


class Begun:
    """A node whose text has begun: its name, the trees of it so far, and the sign that ends these."""

    def __init__(self, name, ending):
        self.name = name
        self.ending = ending
        self.trees = []
        self.ahead = ()


class Reader:
    """A text that is read from its first sign on. It raises NoNote at the first sign that cannot stand there."""

    def __init__(self, text):
        self._text = text
        self._read = 0
        self._begun = []

    def tree(self):
        """The tree that the whole text tells."""
        # By a list of begun nodes and not by recursion, so that a deep text does no harm.
        tree = self._begin()
        while len(self._begun) > 0:
            tree = self._begin() if tree is None else self._go_on(tree)
        if self._read < len(self._text):
            raise NoNote(self._read + 1)
        return tree

    def _begin(self):
        """The tree that begins here; None if it is a node with trees in it, the first of which comes next."""
        if self._skip("{"):
            name = self._word()
            self._need("|")
            self._begun.append(Begun(name, "}" if self._skip("|") else "|"))
            return None
        word = self._word()
        if not self._skip("("):
            return ("use", word)
        if self._skip(")"):
            return ("join", word, ())
        self._begun.append(Begun(word, ")"))
        return None

    def _go_on(self, tree):
        """The begun node that ends here, behind a tree in it; None if another tree of it comes next."""
        last = self._begun[-1]
        last.trees.append(tree)
        if last.ending != "}" and self._skip(","):
            return None
        self._need(last.ending)
        if last.ending == "|":
            last.ahead = tuple(last.trees)
            last.ending = "}"
            return None
        self._begun.pop()
        if last.ending == ")":
            return ("join", last.name, tuple(last.trees))
        return ("bind", last.name, last.ahead, tree)

    def _word(self):
        """The word that stands here."""
        begin = self._read
        while self._read < len(self._text) and is_name(self._text[begin:self._read + 1]):
            self._read += 1
        if self._read == begin:
            raise NoNote(self._read + 1)
        return self._text[begin:self._read]

    def _need(self, sign):
        """Reads this sign, which alone can stand here."""
        if not self._skip(sign):
            raise NoNote(self._read + 1)

    def _skip(self, sign):
        """Whether this sign stands here; it is read then."""
        if not self._text.startswith(sign, self._read):
            return False
        self._read += 1
        return True
