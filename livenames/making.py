"""Trees made of other trees: of a term's, or of a numbered form's, whose binders have no name."""

from livenames.terms import nodes_of, trees_below


def remade(nodes, heads, leaves):
    """The tree of some nodes, its binders begun by other heads, its uses other trees, for each one in order."""
    heads_left = list(heads)
    leaves_left = list(leaves)
    made = []
    # From the last node to the first one, so that what is below a node is made ahead of it.
    for node in nodes[::-1]:
        below = [made.pop() for _ in trees_below(node)]
        if node[0] == "use":
            made.append(leaves_left.pop())
        elif node[0] == "join":
            made.append(("join", node[1], tuple(below)))
        else:
            made.append((*heads_left.pop(), tuple(below[:-1]), below[-1]))
    return made[0]


def with_names(nodes, names, used):
    """The tree of some nodes with other names at its binders and at its uses, for each one in order."""
    return remade(nodes, [("bind", name) for name in names], [("use", name) for name in used])


def with_names_by(tree, table):
    """A tree with other names at its binders and at its uses: those that a dict has for the old ones."""
    nodes = nodes_of(tree)
    names = [table.get(node[1], node[1]) for node in nodes if node[0] == "bind"]
    used = [table.get(node[1], node[1]) for node in nodes if node[0] == "use"]
    return with_names(nodes, names, used)


def with_trees(tree, trees):
    """A tree with others in the place of some of its nodes, by a dict from the numbers of these."""
    nodes = nodes_of(tree)
    made = []
    for number in reversed(range(len(nodes))):
        below = [made.pop() for _ in trees_below(nodes[number])]
        if number in trees:
            made.append(trees[number])
        else:
            made.append(with_below(nodes[number], below))
    return made[0]


def with_below(node, below):
    """A node with other trees directly below it."""
    if node[0] == "use":
        return node
    if node[0] == "join":
        return ("join", node[1], tuple(below))
    return ("bind", node[1], tuple(below[:-1]), below[-1])
