"""Links: what facts say at the nodes of a tree."""


def befores_in(finds, fact):
    """The pairs of finds the first of which stands before the second one, as a fact says."""
    if fact[0] == "first":
        return [(fact[1], name) for name in finds if name != fact[1]]
    if fact[0] == "last":
        return [(name, fact[1]) for name in finds if name != fact[1]]
    return [(fact[1], fact[2])]


def says_self(fact):
    """Whether a fact puts a find before itself."""
    return fact[0] == "before" and fact[1] == fact[2]


def number_in(children, name):
    """The number of the child that contains a find."""
    return [name in child for child in children].index(True) + 1


def link_of(tree, x, y):
    """The node at which two finds part, and the link that it gets if the first one stands before the second one."""
    node = tree.parting(x, y)
    children = tree.children(node)
    return node, (number_in(children, x), number_in(children, y))


def links_of(tree, facts):
    """A dict from the nodes of a tree to the ascending lists of the links that facts give them."""
    befores = [pair for fact in facts if not says_self(fact) for pair in befores_in(tree.finds(), fact)]
    told = [link_of(tree, x, y) for x, y in befores]
    return {node: sorted(set([link for at, link in told if at == node])) for node in tree.nodes()}


def can_hold(tree, facts, held):
    """Whether some order that fits a tree fits some facts, and at its nodes the links that are held."""
    if any([says_self(fact) for fact in facts]):
        return False
    told = links_of(tree, facts)
    return all([_can_link(tree.shape(node), told[node] + held.get(node, [])) for node in told])


def _can_link(shape, links):
    """Whether some order of the children of a node fits its links."""
    if shape == "row":
        return all([i < j for i, j in links]) or all([i > j for i, j in links])
    left = links
    while len(left) > 0:
        # A child to which no link leads may stand first; with it, the links that lead from it are done.
        fewer = [(i, j) for i, j in left if i in [end for _, end in left]]
        if len(fewer) == len(left):
            return False
        left = fewer
    return True
