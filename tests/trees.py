"""Trees and terms that several tests use."""

import functools
import itertools
import random

from livenames.terms import Term

X = ("use", "x")
Y = ("use", "y")
EMPTY = ("join", "f", ())
PLAIN = ("bind", "x", (), X)

# Joins with and without parts, binders with none, one and several ahead ones, and uses in all of these.
RICH = ("join", "top", (
    ("bind", "x", (), ("join", "f", (X, ("use", "free")))),
    ("join", "none", ()),
    ("bind", "y", (Y,), ("bind", "x", (("join", "g", (X, Y)), ("bind", "z", (), ("use", "z")), EMPTY), Y)),
    ("use", "last"),
))
RICH_NODES = [
    RICH,
    ("bind", "x", (), ("join", "f", (X, ("use", "free")))),
    ("join", "f", (X, ("use", "free"))),
    X,
    ("use", "free"),
    ("join", "none", ()),
    ("bind", "y", (Y,), ("bind", "x", (("join", "g", (X, Y)), ("bind", "z", (), ("use", "z")), EMPTY), Y)),
    Y,
    ("bind", "x", (("join", "g", (X, Y)), ("bind", "z", (), ("use", "z")), EMPTY), Y),
    ("join", "g", (X, Y)),
    X,
    Y,
    ("bind", "z", (), ("use", "z")),
    ("use", "z"),
    EMPTY,
    Y,
    ("use", "last"),
]


def rows_of_trees(size, room):
    """All tuples of up to room trees that have so many nodes together."""
    if size == 0:
        return [()]
    if room == 0:
        return []
    return [
        (first, *rest)
        for many in range(1, size + 1)
        for first in all_trees(many)
        for rest in rows_of_trees(size - many, room - 1)
    ]


def all_trees(size):
    """All trees of just so many nodes, of up to three parts or ahead ones a node."""
    found = [("use", "x"), ("use", "y")] if size == 1 else []
    found += [("join", "f", parts) for parts in rows_of_trees(size - 1, 3)]
    for many in range(1, size):
        for body in all_trees(many):
            found += [("bind", "x", ahead, body) for ahead in rows_of_trees(size - 1 - many, 3)]
    return found


def met(tree):
    """The nodes below a tree and itself, as the document numbers them."""
    below = {"use": (), "join": tree[-1], "bind": (*tree[-2], tree[-1])}[tree[0]]
    return [tree] + [node for part in below for node in met(part)]


def most_on_a_way(tree):
    below = {"use": (), "join": tree[-1], "bind": (*tree[-2], tree[-1])}[tree[0]]
    return 1 + max([most_on_a_way(part) for part in below], default=0)


def joined(many):
    """A join of so many nodes altogether."""
    return ("join", "f", (X,) * (many - 1))


def bound(many, body=X):
    for _ in range(many):
        body = ("bind", "x", (), body)
    return body


def deep(many):
    """A tree with so many nodes on its one way, by joins."""
    tree = X
    for _ in range(many - 1):
        tree = ("join", "f", (tree,))
    return tree


def rows_of_named(size, room):
    """All tuples of up to room trees of named_trees that have so many nodes together."""
    if size == 0:
        return [()]
    if room == 0:
        return []
    return [
        (first, *rest)
        for many in range(1, size + 1)
        for first in named_trees(many)
        for rest in rows_of_named(size - many, room - 1)
    ]


@functools.lru_cache(None)
def named_trees(size):
    """All trees of just so many nodes, of up to two parts and one ahead one a node, with several names."""
    found = [("use", name) for name in ["x", "y", "z"]] if size == 1 else []
    found += [("join", "f", parts) for parts in rows_of_named(size - 1, 2)]
    for many in range(1, size):
        for body in named_trees(many):
            for ahead in rows_of_named(size - 1 - many, 1):
                found += [("bind", name, ahead, body) for name in ["x", "y"]]
    return found


def drawn_tree(dice, size, names):
    """A tree of about so many nodes, most of them uses and binders."""
    if size <= 1:
        return ("use", dice.choice(names)) if dice.random() < 0.9 else EMPTY
    if dice.random() < 0.5:
        ahead = tuple(drawn_tree(dice, size // 4, names) for _ in range(dice.choice([0, 0, 0, 1, 2])))
        return ("bind", dice.choice(names), ahead, drawn_tree(dice, size - 1 - len(ahead) * (size // 4), names))
    many = dice.choice([1, 2, 2, 3])
    return ("join", dice.choice(["f", "g"]), tuple(drawn_tree(dice, (size - 1) // many, names) for _ in range(many)))


@functools.lru_cache(None)
def drawn_terms(many, most_binders):
    """So many terms of up to a number of binders, always the same ones."""
    dice = random.Random(20)
    found = []
    while len(found) < many:
        term = Term(drawn_tree(dice, dice.randint(4, 18), ["x", "y", "z", "ab"]))
        if 2 <= len(term.binders()) <= most_binders:
            found.append(term)
    return tuple(found)


def some_of(values):
    """All tuples of some of a few values, in their order."""
    return [chosen for many in range(len(values) + 1) for chosen in itertools.combinations(values, many)]


@functools.lru_cache(None)
def nested_terms():
    """All terms of three nested binders, with all choices of uses in the body of each, free ones, too."""
    found = []
    for outer, middle, inner in itertools.product(some_of("pz"), some_of("pqz"), some_of("pqrz")):
        tree = ("join", "h", tuple(("use", name) for name in inner))
        tree = ("join", "g", (*(("use", name) for name in middle), ("bind", "r", (), tree)))
        tree = ("join", "f", (("bind", "q", (), tree), *(("use", name) for name in outer)))
        found.append(Term(("bind", "p", (), tree)))
    return tuple(found)


@functools.lru_cache(None)
def small_terms():
    """All terms of up to four nodes, and some greater ones of up to four binders."""
    smallest = tuple(Term(tree) for size in range(1, 5) for tree in named_trees(size))
    return smallest + nested_terms()[::5] + drawn_terms(300, 4)


def use_name(number):
    """One of many names of two letters."""
    return "abcdefghijklmnopqrstuvwxyz"[number // 26] + "abcdefghijklmnopqrstuvwxyz"[number % 26]


def greatest_terms():
    """Terms of four hundred nodes, sixty binders, a hundred on a way."""
    # Below sixty binders and thirty-eight joins is one join of all their uses and of free ones.
    way = ("join", "f", tuple(("use", use_name(number)) for number in range(301)))
    for _ in range(38):
        way = ("join", "g", (way,))
    nested = way
    for number in range(60)[::-1]:
        nested = ("bind", use_name(number), (), nested)
    alone = way
    for _ in range(60):
        alone = ("bind", "aa", (), alone)
    # Forty binders on the way each have a use of the one ahead of it, twenty others stand in a row.
    mixed = ("join", "f", (("bind", "x", (), X),) * 20 + (X,) * 182)
    for _ in range(17):
        mixed = ("join", "g", (mixed,))
    for number in range(40):
        name = ["x", "y", "z"][number % 3]
        mixed = ("bind", name, (), ("join", "f", (("use", "x"), mixed, ("use", "y"))))
    bare = Term(("join", "f", (deep(99),) + tuple(("use", use_name(number)) for number in range(300))))
    return [Term(nested), Term(alone), Term(mixed), bare]
