"""What the document says of numbers for names, putting and inlining, word by word: terms whose uses mean objects."""

import itertools

from livenames.terms import Term
from livenames.writing import written
from tests.slow import Walk
from tests.wishing import Wished

# Names that no test gives to a term's binders, nor has free.
OWN = ["qq" + one + other + "qq" for one in "abcdefghij" for other in "abcdefghijklmnop"]


class Bound:
    """A binder: its old name is all that is known of it."""

    def __init__(self, name):
        self.name = name


def linked(tree, around=()):
    """A tree in which a use has the binder that it means, or its free name."""
    if tree[0] == "use":
        return ("use", next((one for one in around[::-1] if one.name == tree[1]), tree[1]))
    if tree[0] == "join":
        return ("join", tree[1], [linked(part, around) for part in tree[2]])
    bound = Bound(tree[1])
    ahead = [linked(part, around) for part in tree[2]]
    return ("bind", bound, ahead, linked(tree[3], (*around, bound)))


def parts_of(node):
    if node[0] == "use":
        return []
    return node[2] if node[0] == "join" else [*node[2], node[3]]


def nodes_of(tree):
    return [tree] + [node for part in parts_of(tree) for node in nodes_of(part)]


def binders_of(tree):
    return [node[1] for node in nodes_of(tree) if node[0] == "bind"]


def changed(tree, change):
    """A tree in which change tells what stands in the place of a node, None for the node itself."""
    instead = change(tree)
    if instead is not None:
        return instead
    if tree[0] == "use":
        return tree
    if tree[0] == "join":
        return ("join", tree[1], [changed(part, change) for part in tree[2]])
    return ("bind", tree[1], [changed(part, change) for part in tree[2]], changed(tree[3], change))


def copied(tree):
    """A copy of a tree with binders of its own."""
    others = {bound: Bound(bound.name) for bound in binders_of(tree)}

    def copy(node):
        if node[0] == "use":
            return ("use", others.get(node[1], node[1]))
        if node[0] == "bind":
            return ("bind", others[node[1]], [changed(part, copy) for part in node[2]], changed(node[3], copy))
        return None
    return changed(tree, copy)


class Made:
    """What the document says of a linked tree that came of putting or inlining."""

    def __init__(self, tree):
        self.bounds = binders_of(tree)
        self.old = tuple(bound.name for bound in self.bounds)
        own = dict(zip(self.bounds, OWN))
        self.own_term = Term(self.by_own_names(tree, own))
        self.walk = Walk(self.own_term)

    def by_own_names(self, tree, own):
        if tree[0] == "use":
            return ("use", own.get(tree[1], tree[1]))
        if tree[0] == "join":
            return ("join", tree[1], tuple(self.by_own_names(part, own) for part in tree[2]))
        ahead = tuple(self.by_own_names(part, own) for part in tree[2])
        return ("bind", own[tree[1]], ahead, self.by_own_names(tree[3], own))

    def naming(self):
        wished = Wished(self.own_term, self.old, [1] * len(self.old))
        wished.names = list(self.old)
        return wished.naming()

    def term(self):
        return written(self.own_term, self.naming())

    def renamed(self):
        return [binder for binder, name in enumerate(self.naming()) if name != self.old[binder]]

    def catches(self):
        return self.walk.catches(self.old)

    def fewest_renamed(self):
        """How many binders a right naming renames at least, whatever names it has."""
        fresh = [name for name in OWN if name not in self.old][-len(self.old):] if self.old else []
        pool = sorted(set(self.old)) + fresh
        right = [naming for naming in itertools.product(pool, repeat=len(self.old)) if self.walk.is_right(naming)]
        return min(sum(one != other for one, other in zip(naming, self.old)) for naming in right)


def put_slowly(host, number, guest, links):
    """The Made that comes of putting a guest tree for a use of a host tree."""
    host, guest = linked(host), linked(guest)
    bounds = binders_of(host)
    uses = [node for node in nodes_of(host) if node[0] == "use"]

    def link(node):
        if node[0] == "use" and isinstance(node[1], str) and links[node[1]] is not None:
            return ("use", bounds[links[node[1]]])
        return None
    guest = changed(guest, link)
    return Made(changed(host, lambda node: guest if node is uses[number] else None))


def inline_slowly(tree, binder):
    """The Made that comes of inlining a binder of a tree."""
    tree = linked(tree)
    bound = binders_of(tree)[binder]

    def instead(node):
        if node[0] == "bind" and node[1] is bound:
            first = node[2][0]
            return changed(node[3], lambda use: copied(first) if use[0] == "use" and use[1] is bound else None)
        return None
    return Made(changed(tree, instead))


def numbered_slowly(tree, around=()):
    """The numbered form of a tree within binders of these names, the outermost one first."""
    if tree[0] == "use":
        return ("use", around[::-1].index(tree[1]) if tree[1] in around else tree[1])
    if tree[0] == "join":
        return ("join", tree[1], tuple(numbered_slowly(part, around) for part in tree[2]))
    ahead = tuple(numbered_slowly(part, around) for part in tree[2])
    return ("bind", ahead, numbered_slowly(tree[3], (*around, tree[1])))
