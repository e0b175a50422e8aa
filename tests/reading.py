"""How far a text is the beginning of a term's text: all readings at once, sign by sign, by the grammar alone."""

LETTERS = "abcdefghijklmnopqrstuvwxyz"

# What each word of the grammar may stand for: rows of signs and such words, "letter" one letter.
RULES = {
    "tree": [("word",), ("word", "(", "row", ")"), ("{", "word", "|", "row", "|", "tree", "}")],
    "row": [(), ("tree", "more")],
    "more": [(), (",", "tree", "more")],
    "word": [("letter",) * many for many in range(1, 9)],
}


def opened(readings):
    """All rows that readings may go on with, each of which begins with a sign or a letter, or is empty."""
    waiting, found = list(readings), set()
    while waiting:
        row = waiting.pop()
        if row and row[0] in RULES:
            waiting += [(*rule, *row[1:]) for rule in RULES[row[0]]]
        else:
            found.add(row)
    return found


def place_of_fault(text):
    """The place, from 1, of the first sign that cannot stand there, or behind the end; None for a term's text."""
    readings = opened([("tree",)])
    for place, sign in enumerate(text):
        is_letter = sign in LETTERS and sign != ""
        readings = opened({row[1:] for row in readings if row and (row[0] == sign or row[0] == "letter" and is_letter)})
        if not readings:
            return place + 1
    return None if () in readings else len(text) + 1


def read_slowly(text):
    """The tree of a text that is one of a term."""
    tree, rest = read_first(text)
    assert rest == "", text
    return tree


def read_first(text):
    if text[0] == "{":
        name, rest = text[1:].split("|", 1)
        ahead, rest = read_row(rest, "|")
        body, rest = read_first(rest)
        return ("bind", name, ahead, body), rest[1:]
    word = ""
    while text[:1] in LETTERS and text:
        word, text = word + text[0], text[1:]
    if text[:1] != "(":
        return ("use", word), text
    parts, rest = read_row(text[1:], ")")
    return ("join", word, parts), rest


def read_row(text, ending):
    if text[0] == ending:
        return (), text[1:]
    trees = []
    while True:
        tree, text = read_first(text)
        trees.append(tree)
        if text[0] == ending:
            return tuple(trees), text[1:]
        text = text[1:]
