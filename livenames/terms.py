"""Trees of binders and uses, and the terms that are made of them."""

from livenames.errors import NoNames, NoNode, NoTerm, TooMany
from livenames.words import is_name, is_number_below

MOST_NODES = 400
MOST_BINDERS = 60
MOST_ON_A_WAY = 100

# How many parts the tuple of a node has, for each kind of node.
SIZES = {"use": 2, "join": 3, "bind": 4}


def is_tree(value):
    """Whether any value is a tree."""
    row = [value]
    # Row by row and not by recursion, so that a deep value does no harm.
    while row:
        if not all([has_node_form(part) for part in row]):
            return False
        row = row_below(row)
    return True


def in_order(names):
    """The list of some names, each once, in order."""
    if not isinstance(names, (list, tuple)) or not all([is_name(name) for name in names]):
        raise NoNames(names)
    # Equally long names stay in the order of their letters, since sorting is stable.
    return sorted(sorted(set(names)), key=len)


def has_node_form(value):
    """Whether any value is made as a node is, whatever the parts below it are."""
    if not isinstance(value, tuple) or len(value) == 0:
        return False
    kind = value[0]
    if not isinstance(kind, str) or SIZES.get(kind) != len(value):
        return False
    return is_name(value[1]) and (kind == "use" or isinstance(value[2], tuple))


def trees_below(node):
    """The tuple of the trees directly below a node, in the order in which they are met."""
    if node[0] == "use":
        return ()
    if node[0] == "join":
        return node[2]
    # From its end, so that it may also be a binder without a name, of a numbered form.
    return (*node[-2], node[-1])


def row_below(row):
    """The list of the trees directly below some nodes."""
    return [tree for node in row for tree in trees_below(node)]


def nodes_of(tree):
    """The list of the trees of all nodes, in the order in which they are met."""
    nodes = []
    waiting = [tree]
    while waiting:
        node = waiting.pop()
        nodes.append(node)
        # The leftmost one goes on top, as it is met next.
        waiting.extend(trees_below(node)[::-1])
    return nodes


def numbers_of(kind, nodes):
    """The list of the numbers of the nodes of a kind, ascending."""
    return [number for number, node in enumerate(nodes) if node[0] == kind]


def depth_of(tree):
    """The most nodes on a way from the root down."""
    depth = 0
    row = [tree]
    while row:
        depth += 1
        row = row_below(row)
    return depth


def tree_of(part):
    """The tree of a Term; any other value as it is."""
    if isinstance(part, Term):
        return part.tree()
    return part


def trees_of(parts):
    """The tuple of some values, a Term's tree in the place of each Term."""
    return tuple([tree_of(part) for part in parts])


class Term:
    """A tree within the limits. It is iterated over for the trees of its nodes."""

    def __init__(self, tree):
        if not is_tree(tree):
            raise NoTerm(tree)
        nodes = nodes_of(tree)
        if len(nodes) > MOST_NODES:
            raise TooMany(MOST_NODES)
        binders = numbers_of("bind", nodes)
        if len(binders) > MOST_BINDERS:
            raise TooMany(MOST_BINDERS)
        depth = depth_of(tree)
        if depth > MOST_ON_A_WAY:
            raise TooMany(MOST_ON_A_WAY)
        self._tree = tree
        self._nodes = nodes
        self._binders = binders
        self._uses = numbers_of("use", nodes)
        self._depth = depth

    def tree(self):
        """The tree of the term."""
        return self._tree

    def __len__(self):
        return len(self._nodes)

    def __getitem__(self, at):
        if not is_number_below(at, len(self._nodes)):
            raise NoNode(at)
        return self._nodes[at]

    def __contains__(self, x):
        return is_tree(x) and x in self._nodes

    def __iter__(self):
        return iter(self._nodes)

    def listed(self):
        """The list of the trees of the nodes, in order."""
        return list(self._nodes)

    def binders(self):
        """The list of the numbers of the nodes that are binders."""
        return list(self._binders)

    def uses(self):
        """The list of the numbers of the nodes that are uses."""
        return list(self._uses)

    def depth(self):
        """The most nodes on a way from the root down."""
        return self._depth

    def __eq__(self, other):
        return isinstance(other, Term) and self._tree == other._tree

    @staticmethod
    def of_use(name):
        """The Term of a use."""
        return Term(("use", name))

    @staticmethod
    def of_join(label, *parts):
        """The Term of a join of some trees or Terms."""
        return Term(("join", label, trees_of(parts)))

    @staticmethod
    def of_bind(name, body, *ahead):
        """The Term of a binder, its body and its ahead ones trees or Terms."""
        return Term(("bind", name, trees_of(ahead), tree_of(body)))


def need_term(value):
    """Raises NoTerm for any value that is no Term."""
    if not isinstance(value, Term):
        raise NoTerm(value)
