"""Flow graphs by where their nodes lead, and what the words of the document say of all their ways."""

import random

from drawloom.graphs import check_graph
from tests.randoms import pruned


def end_of(ways):
    """Return an end that leads to these nodes."""
    return (("exit",), ("jump",) + ways, ("branch", 0) + ways)[len(ways)]


def shape(*ways):
    """Return a flow graph of which each node leads to these nodes."""
    graph = ((), (), 1, tuple(((), end_of(row)) for row in ways))
    check_graph(graph)
    return graph


SHAPES = {
    "one node": shape(()),
    "a straight way": shape((1,), (2,), (3,), ()),
    "a straight way with other numbers": shape((3,), (), (1,), (2,)),
    "a branch": shape((1, 2), (3,), (3,), ()),
    "a branch without a join": shape((1, 2), (), ()),
    "a branch of which one way is empty": shape((1, 2), (2,), ()),
    "branches in a branch": shape((1, 2), (3, 4), (5,), (5,), (5,), ()),
    "a loop": shape((1,), (2, 3), (1,), ()),
    "a loop with the test at its end": shape((1,), (2,), (1, 3), ()),
    "a loop in a loop": shape((1,), (2, 5), (3, 4), (2,), (1,), ()),
    "a loop with two ways back": shape((1,), (2, 5), (3, 4), (1,), (1,), ()),
    "a loop with a break": shape((1,), (2, 4), (3, 4), (1,), ()),
    "a loop that is entered at two nodes": shape((1, 2), (2,), (1, 3), ()),
    "two loops that are entered at two nodes": shape((1, 2), (2, 3), (1, 4), (1, 5), (2, 5), ()),
    "a node that leads to itself": shape((1,), (1, 2), ()),
    "a node that leads to itself and is left nowhere": shape((1,), (1,)),
    "a branch that leads to one node twice": shape((1, 1), (2, 2), ()),
    "a branch that leads to itself twice": shape((1, 2), (1, 1), ()),
    "several exits": shape((1, 4), (2, 3), (), (4,), (5, 6), (), ()),
    "no exit from some nodes": shape((1, 2), (3, 1), (4, 5), (3,), (), (5,)),
    "no exit behind a branch in a loop": shape((1,), (2, 3), (1, 4), (), (4,)),
    "no exit from any node": shape((1,), (2, 3), (1,), (1,)),
    "no exit from any node, with a branch": shape((1, 2), (1,), (2,)),
    "a ladder": shape((1, 2), (3, 4), (4, 3), (5, 6), (6, 5), (7,), (7,), ()),
    "a loop behind a join": shape((1, 2), (3,), (3,), (4,), (3, 5), ()),
}


def random_shape(seed, most=10):
    """Return a random flow graph without instructions."""
    dice = random.Random(seed)
    many = dice.randrange(1, most + 1)
    nodes = []
    for _ in range(many):
        kind = dice.choice((0, 1, 1, 2, 2, 2)) if many > 1 else 0
        nodes.append(((), end_of(tuple(dice.randrange(1, many) for _ in range(kind)))))
    graph = ((), (), 1, pruned(nodes))
    check_graph(graph)
    return graph


def ways_of(graph):
    """Return the list, for each node, of the set of those to which it leads."""
    return [set(end[1:] if end[0] == "jump" else end[2:]) for _, end in graph[3]]


def reach(ways, first, avoided=()):
    """Return the set of the nodes that can be reached from some, themselves among them."""
    found = {node for node in first if node not in avoided}
    waiting = list(found)
    while waiting:
        for node in ways[waiting.pop()]:
            if node not in found and node not in avoided:
                found.add(node)
                waiting.append(node)
    return found


def is_dominated(graph, a, b):
    """Tell whether node b can't be reached if node a is taken away."""
    return a == b or b not in reach(ways_of(graph), [0], [a])


def exits_behind(graph, b, avoided=()):
    """Return the exits that can be reached from node b if some nodes are taken away."""
    ways = ways_of(graph)
    return {node for node in reach(ways, [b], avoided) if graph[3][node][1] == ("exit",)}


def is_postdominated(graph, a, b):
    """Tell whether there is a way from b to an exit, but none if node a is taken away."""
    return bool(exits_behind(graph, b)) and not exits_behind(graph, b, [a])


def immediate(graph, b, is_above):
    """Return the node that is above b and is below all others that are, -1 if there is none."""
    above = [a for a in range(len(graph[3])) if a != b and is_above(graph, a, b)]
    found = [c for c in above if all(is_above(graph, a, c) for a in above)]
    assert len(found) <= 1
    return found[0] if found else -1


def frontier_of(graph, a):
    """Return the frontier of a node."""
    ways = ways_of(graph)
    found = []
    for b in range(len(ways)):
        origins = [node for node in range(len(ways)) if b in ways[node]]
        if any(is_dominated(graph, a, node) for node in origins) and (a == b or not is_dominated(graph, a, b)):
            found.append(b)
    return found


def region_of(graph, b):
    """Return the region of a node."""
    ways = ways_of(graph)
    return sorted(reach(ways, ways[b], [immediate(graph, b, is_postdominated)]))
