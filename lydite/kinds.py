"""Kinds of terms (points 34 to 36)."""

from lydite.errors import NoKind, TooLarge
from lydite.graph import KindGraph
from lydite.terms import check_size, depths, free, is_written

MOST_FREE = 200


def is_kind(value):
    """Return True if the value is a kind of at most MOST_NODES nodes."""
    return is_written(value, ("to",))


def renamed(kinds):
    """Return the list of kinds with the variables 0, 1, 2, ... in their order."""
    numbers = {}
    found = []
    for kind in kinds:
        nodes = []
        for node in kind:
            if node == "to":
                nodes.append(node)
            else:
                nodes.append(numbers.setdefault(node, len(numbers)))
        found.append(tuple(nodes))
    return found


def are_general(graph, nodes, kinds):
    """Return True if kinds are an instance of those for which the nodes stand."""
    parts = {}
    return all([graph.is_general(node, kind, parts) for node, kind in zip(nodes, kinds)])


def is_instance(general, special):
    """Return True if the second list is an instance of the first one."""
    if len(general) != len(special):
        return False
    graph = KindGraph()
    variables = {}
    nodes = [graph.loaded(kind, variables) for kind in general]
    return are_general(graph, nodes, special)


def written_kinds(graph, nodes):
    """Return the renamed kinds for which nodes stand. Raise NoKind, TooLarge."""
    sizes = graph.sizes()
    check_size(sum([sizes[graph.chief(node)] for node in nodes]))
    return renamed([graph.written(node) for node in nodes])


def joined(first, second):
    """Return the renamed kind that both kinds become. Raise NoKind, TooLarge."""
    graph = KindGraph()
    variables = {}
    node = graph.loaded(first, variables)
    graph.unite(node, graph.loaded(second, variables))
    return written_kinds(graph, [node])[0]


def free_count(term):
    """Return how many free variables of a term count."""
    numbers = free(term)
    if len(numbers) == 0:
        return 0
    return numbers[-1] + 1


def own_nodes(graph, term, free_nodes):
    """Return a node of the graph for each node of a term.

    It stands for the kind of a variable, of the variable of an abstraction, or
    of an application.
    """
    found = []
    around = []
    for node, depth in zip(term, depths(term)):
        del around[depth:]
        if node == "app":
            found.append(graph.new_node(None))
        elif node == "lam":
            found.append(graph.new_node(None))
            around.append(found[-1])
        elif node < depth:
            found.append(around[depth - 1 - node])
        else:
            found.append(free_nodes[node - depth])
    return found


def kinding_nodes(graph, term, count):
    """Return nodes for the principal kinding of a term with so many free variables.

    If the term has no kinding, a kind of the graph would contain itself.
    """
    free_nodes = [graph.new_node(None) for _ in range(count)]
    own = own_nodes(graph, term, free_nodes)
    pending = []
    # The nodes from the last one on, so that the kinds of the parts are there.
    for at in reversed(range(len(term))):
        if term[at] == "app":
            function = pending.pop()
            graph.unite(function, graph.new_node((pending.pop(), own[at])))
            pending.append(own[at])
        elif term[at] == "lam":
            pending.append(graph.new_node((own[at], pending.pop())))
        else:
            pending.append(own[at])
    return free_nodes + pending


def principal(term):
    """Return the principal kinding of a term. Raise TooLarge, NoKind."""
    count = free_count(term)
    if count > MOST_FREE + 1:
        raise TooLarge(f"the term has a free variable greater than {MOST_FREE}")
    graph = KindGraph()
    return written_kinds(graph, kinding_nodes(graph, term, count))


def has_kinds(term, kinds):
    """Return True if the list of kinds is a kinding of the term."""
    count = free_count(term)
    if len(kinds) != count + 1:
        return False
    graph = KindGraph()
    nodes = kinding_nodes(graph, term, count)
    try:
        graph.ordered()
    except NoKind:
        return False
    return are_general(graph, nodes, kinds)
