"""Trees of binders and uses, and the terms that are made of them."""

from livenames.errors import NoNames, NoNode, NoTerm, TooMany
from livenames.words import are_all_names, is_number_below

MOST_NODES = 400
MOST_BINDERS = 60
MOST_ON_A_WAY = 100


def is_tree(value):
    """Whether any value is a tree."""
    return len(nodes_if_tree(value)) > 0


def in_order(names):
    """The list of some names, each once, in order."""
    if not isinstance(names, (list, tuple)) or not are_all_names(names):
        raise NoNames(names)
    # Equally long names stay in the order of their letters, since sorting is stable.
    return sorted(sorted(set(names)), key=len)


def nodes_if_tree(value):
    """The list of the trees of all nodes of a tree, in the order in which they are met; none for any other value."""
    nodes = []
    names = []
    waiting = [value]
    # By a list of what waits and not by recursion, so that a deep value does no harm.
    while waiting:
        node = waiting.pop()
        if not isinstance(node, tuple):
            return []
        if len(node) == 2:
            kind, name = node
            if not isinstance(kind, str) or kind != "use":
                return []
        elif len(node) == 3:
            kind, name, parts = node
            if not isinstance(kind, str) or kind != "join" or not isinstance(parts, tuple):
                return []
            # The leftmost one goes on top, as it is met next.
            waiting.extend(parts[::-1])
        elif len(node) == 4:
            kind, name, ahead, body = node
            if not isinstance(kind, str) or kind != "bind" or not isinstance(ahead, tuple):
                return []
            waiting.append(body)
            waiting.extend(ahead[::-1])
        else:
            return []
        nodes.append(node)
        names.append(name)
    if are_all_names(names):
        return nodes
    return []


def trees_below(node):
    """The tuple of the trees directly below a node, in the order in which they are met."""
    if node[0] == "use":
        return ()
    if node[0] == "join":
        return node[2]
    # From its end, so that it may also be a binder without a name, of a numbered form.
    return (*node[-2], node[-1])


def row_below(row):
    """The list of the trees directly below some nodes."""
    return [tree for node in row for tree in trees_below(node)]


def nodes_of(tree):
    """The list of the trees of all nodes, in the order in which they are met."""
    nodes = []
    waiting = [tree]
    while waiting:
        node = waiting.pop()
        nodes.append(node)
        # The leftmost one goes on top, as it is met next.
        waiting.extend(trees_below(node)[::-1])
    return nodes


def numbers_of(kind, nodes):
    """The list of the numbers of the nodes of a kind, ascending."""
    return [number for number, node in enumerate(nodes) if node[0] == kind]


def depth_of(tree):
    """The most nodes on a way from the root down."""
    depth = 0
    row = [tree]
    while row:
        depth += 1
        row = row_below(row)
    return depth


def limit_broken(nodes):
    """The first of a term's limits that all nodes of a tree, or of a numbered form, break; None if they keep them."""
    if len(nodes) > MOST_NODES:
        return MOST_NODES
    # Few nodes keep the other limits anyway.
    if len(nodes) > MOST_BINDERS and len(numbers_of("bind", nodes)) > MOST_BINDERS:
        return MOST_BINDERS
    if len(nodes) > MOST_ON_A_WAY and depth_of(nodes[0]) > MOST_ON_A_WAY:
        return MOST_ON_A_WAY
    return None


def find_binders(term):
    """The list of the numbers of the nodes of a Term that are binders."""
    return numbers_of("bind", term.listed())


def find_uses(term):
    """The list of the numbers of the nodes of a Term that are uses."""
    return numbers_of("use", term.listed())


def find_depth(term):
    """The most nodes on a way from the root of a Term down."""
    return depth_of(term.tree())


def tree_of(part):
    """The tree of a Term; any other value as it is."""
    if isinstance(part, Term):
        return part.tree()
    return part


def trees_of(parts):
    """The tuple of some values, a Term's tree in the place of each Term."""
    return tuple([tree_of(part) for part in parts])


class Term:
    """A tree within the limits. It is iterated over for the trees of its nodes."""

    def __init__(self, tree):
        nodes = nodes_if_tree(tree)
        if len(nodes) == 0:
            raise NoTerm(tree)
        broken = limit_broken(nodes)
        if broken is not None:
            raise TooMany(broken)
        self._tree = tree
        self._nodes = nodes
        self._found = {}

    def once(self, ask):
        """What a function tells of this term: it is asked once, as a term never changes. Nobody changes its answer."""
        if ask not in self._found:
            self._found[ask] = ask(self)
        return self._found[ask]

    def tree(self):
        """The tree of the term."""
        return self._tree

    def __len__(self):
        return len(self._nodes)

    def __getitem__(self, at):
        if not is_number_below(at, len(self._nodes)):
            raise NoNode(at)
        return self._nodes[at]

    def __contains__(self, x):
        return is_tree(x) and x in self._nodes

    def __iter__(self):
        return iter(self._nodes)

    def listed(self):
        """The list of the trees of the nodes, in order."""
        return list(self._nodes)

    def binders(self):
        """The list of the numbers of the nodes that are binders."""
        return list(self.once(find_binders))

    def uses(self):
        """The list of the numbers of the nodes that are uses."""
        return list(self.once(find_uses))

    def depth(self):
        """The most nodes on a way from the root down."""
        return self.once(find_depth)

    def __eq__(self, other):
        return isinstance(other, Term) and self._tree == other._tree

    @staticmethod
    def of_use(name):
        """The Term of a use."""
        return Term(("use", name))

    @staticmethod
    def of_join(label, *parts):
        """The Term of a join of some trees or Terms."""
        return Term(("join", label, trees_of(parts)))

    @staticmethod
    def of_bind(name, body, *ahead):
        """The Term of a binder, its body and its ahead ones trees or Terms."""
        return Term(("bind", name, trees_of(ahead), tree_of(body)))


def need_term(value):
    """Raises NoTerm for any value that is no Term."""
    if not isinstance(value, Term):
        raise NoTerm(value)
