"""A console, which leads a live term by lines of text."""

from livenames.clashing import live_at
from livenames.counting import how_many
from livenames.errors import BinderError, NoNote, TooMany
from livenames.fewest import width
from livenames.live import Live
from livenames.notes import read_term, write_term
from livenames.words import is_name

BEGIN = "begin "

# No node has a number of more digits.
MOST_DIGITS = 9


def tell_term(live, words):
    """The text of the term."""
    return write_term(live.kept())


def tell_names(live, words):
    """The names of the term's binders."""
    return in_a_row(live.named())


def tell_width(live, words):
    """The width of the term."""
    return str(width(live.kept()))


def tell_live(live, words):
    """What is live at a binder."""
    return in_a_row(live_at(live.kept(), number_in(words[0])))


def tell_many(live, words):
    """How many right namings there are from some names."""
    return str(how_many(live.kept(), words))


def rename(live, words):
    """Gives a binder another name."""
    live.rename(number_in(words[0]), words[1])
    return "ok"


def tune(live, words):
    """Gives all binders the told naming."""
    live.tune()
    return "ok"


def inline_one(live, words):
    """Puts a binder's ahead term for its uses."""
    live.inline(number_in(words[0]))
    return "ok"


def wrap(live, words):
    """Puts a new binder round a node."""
    live.wrap(number_in(words[0]), words[1])
    return "ok"


def unwrap(live, words):
    """Puts its body for a binder."""
    live.unwrap(number_in(words[0]))
    return "ok"


def undo(live, words):
    """Takes the last deed back."""
    live.undo()
    return "ok"


# What a line does, by its first word.
DEEDS = {
    "term": tell_term, "names": tell_names, "width": tell_width, "live": tell_live, "many": tell_many,
    "rename": rename, "tune": tune, "inline": inline_one, "wrap": wrap, "unwrap": unwrap, "undo": undo,
}

# Which words a line has behind its first one, all but those that may go on with one name after another.
FORMS = {
    "term": (), "names": (), "width": (), "live": ("N",), "rename": ("N", "NAME"), "tune": (), "inline": ("N",),
    "wrap": ("N", "NAME"), "unwrap": ("N",), "undo": (),
}


class Console:
    """A console; at first it has no live term."""

    def __init__(self):
        self._live = None

    def run(self, line):
        """The answer to a line."""
        if not isinstance(line, str):
            raise NoNote(None)
        try:
            return self._answer(line)
        except BinderError:
            return "error"
        except TooMany:
            return "error"

    def _answer(self, line):
        """The answer to a line, if it raises no error."""
        if "\n" in line:
            return "unknown"
        if line.startswith(BEGIN):
            self._live = Live(read_term(line[len(BEGIN):]))
            return "ok"
        first, *words = line.split(" ")
        if not is_line(first, words):
            return "unknown"
        if self._live is None:
            return "error"
        deed = DEEDS[first]
        return deed(self._live, words)


def is_line(first, words):
    """Whether a line may have these words behind its first one."""
    if first == "many":
        return len(words) > 0 and all([is_name(word) for word in words])
    if first not in FORMS or len(words) != len(FORMS[first]):
        return False
    return all([does_fit(word, form) for word, form in zip(words, FORMS[first])])


def does_fit(word, form):
    """Whether a word is a number, or a name, as the form has it."""
    if form == "NAME":
        return is_name(word)
    return word.isascii() and word.isdigit() and (word == "0" or not word.startswith("0"))


def number_in(word):
    """The number that a word of digits tells, cut where there is no such node anyway."""
    return int(word[:MOST_DIGITS])


def in_a_row(items):
    """Names and numbers with one blank between, - for none."""
    if len(items) == 0:
        return "-"
    return " ".join([str(item) for item in items])
