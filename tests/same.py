"""What the document says of two flow graphs that do the same, and of graphs in form."""

import random

from drawloom.forming import in_form, is_in_form
from drawloom.graphs import check_graph, run_graph
from tests.randoms import random_graph, random_turns
from tests.reference import most_steps
from tests.shapes import is_dominated

# How many steps a thread may do in the graph that is the argument.
ENOUGH = 250


def written_at(row):
    """Return the index of the register that an instruction writes, 0 if it writes none."""
    return {
        "word": 1, "param": 1, "special": 1, "copy": 1, "load": 1, "phi": 1, "unary": 2, "binary": 2, "collect": 2,
    }.get(row[0], 0)


def used_at(row):
    """Return the indices of the registers that an instruction or an end uses."""
    return {
        "copy": (2,), "unary": (3,), "binary": (3, 4), "load": (3,), "store": (2, 3), "atomic": (3, 4),
        "collect": (3,), "branch": (1,),
    }.get(row[0], ())


def uses_of(graph):
    """Return all uses: the register, the node, and the index in it, behind all for its end."""
    found = []
    for node, (rows, end) in enumerate(graph[3]):
        for at, row in enumerate(rows):
            found.extend((row[index], node, at) for index in used_at(row))
            if row[0] == "phi":
                found.extend((number, origin, 10000) for origin, number in row[2])
        found.extend((end[index], node, 10000) for index in used_at(end))
    return found


def writes_of(graph):
    """Return all writes: the register, the node, and the index in it."""
    return [
        (row[written_at(row)], node, at) for node, (rows, _) in enumerate(graph[3])
        for at, row in enumerate(rows) if written_at(row)
    ]


def comes_before(graph, one, other):
    """Tell whether the place of a write comes before that of something else, as point 14 says."""
    if one[0] == other[0]:
        return one[1] < other[1]
    return is_dominated(graph, one[0], other[0])


def is_in_form_by_words(graph):
    writes = writes_of(graph)
    if len({row[0] for row in writes}) < len(writes):
        return False
    return all(
        any(number == write[0] and comes_before(graph, write[1:], (node, at)) for write in writes)
        for number, node, at in uses_of(graph)
    )


def occurring_ones(graph):
    """Return the set of the registers that occur in a graph."""
    return {row[0] for row in uses_of(graph) + writes_of(graph)}


def phis(graph):
    return [row for rows, _ in graph[3] for row in rows if row[0] == "phi"]


def instructions(graph):
    return [row for rows, _ in graph[3] for row in rows]


def rows_of_phis(graph):
    return sum(len(row[2]) for row in phis(graph))


def does_the_same(test, first, second, start, more=0):
    """Check that a launch does the same with the second graph; return its end with the first one."""
    many = len(phis(first)) + len(phis(second))
    end = ""
    for turns in ([], random_turns(5, 150), [-1] * 200):
        end, memory, races, _ = run_graph(first, start, turns, ENOUGH)
        if end == "fuel" or races:
            continue
        most = (2 * many + 2) * most_steps(first, start, ENOUGH) + 100 + more
        for others in ([], random_turns(7, 200), [-1] * 500):
            result = run_graph(second, start, others, most)
            test.assertEqual((result[0], result[2]), (end, []), (first, second, start))
            if end == "ok":
                test.assertEqual(result[1], memory, (first, second, start))
        return end
    return "racing" if end != "fuel" else "fuel"


def with_other_rows(graph, seed):
    """Return the graph in form with other registers in the rows of its phis, also in form."""
    dice = random.Random(seed)
    numbers = sorted({row[0] for row in writes_of(graph)})
    nodes = [[list(rows), end] for rows, end in graph[3]]
    for node, (rows, _) in enumerate(graph[3]):
        for at, row in enumerate(rows):
            if row[0] != "phi":
                continue
            own = [phi[1] for phi in rows if phi[0] == "phi"]
            for index in range(len(row[2])):
                old = nodes[node][0][at]
                origin = old[2][index][0]
                new = (origin, dice.choice(own if dice.random() < 0.7 else numbers))
                nodes[node][0][at] = old[:2] + (old[2][:index] + (new,) + old[2][index + 1:],)
                if not is_in_form_by_words(graph[:3] + (as_tuples(nodes),)):
                    nodes[node][0][at] = old
    return graph[:3] + (as_tuples(nodes),)


def as_tuples(nodes):
    return tuple((tuple(rows), end) for rows, end in nodes)


def random_form(seed, wild=False, most_nodes=7):
    """Return a random flow graph in form, the phis of which use any registers."""
    graph = with_other_rows(in_form(random_graph(seed, wild, most_nodes)), seed)
    check_graph(graph)
    assert is_in_form(graph)
    return graph
