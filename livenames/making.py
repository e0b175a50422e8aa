"""Trees made of other trees: of a term's, or of a numbered form's, whose binders have no name."""


def remade(nodes, heads, leaves):
    """The tree of some nodes, its binders begun by other heads, its uses other trees, for each one in order."""
    heads_left = list(heads)
    leaves_left = list(leaves)
    made = []
    # From the last node to the first one, so that what is below a node is made ahead of it, the leftmost one last.
    for node in nodes[::-1]:
        if node[0] == "use":
            made.append(leaves_left.pop())
        elif node[0] == "join":
            begin = len(made) - len(node[2])
            parts = made[begin:]
            del made[begin:]
            made.append(("join", node[1], tuple(parts[::-1])))
        else:
            begin = len(made) - len(node[-2])
            body = made[begin - 1]
            ahead = made[begin:]
            del made[begin - 1:]
            made.append(heads_left.pop() + (tuple(ahead[::-1]), body))
    return made[0]


def with_leaves(nodes, leaves):
    """The tree of some nodes, its uses other trees, for each one in order."""
    return remade(nodes, [node[:2] for node in nodes if node[0] == "bind"], leaves)


def with_names(nodes, names, used):
    """The tree of some nodes with other names at its binders and at its uses, for each one in order."""
    return remade(nodes, [("bind", name) for name in names], [("use", name) for name in used])


def tree_met(nodes):
    """The tree whose nodes these are, in the order in which they are met, whatever each one had below it."""
    return with_leaves(nodes, [node for node in nodes if node[0] == "use"])
