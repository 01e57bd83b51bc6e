"""Flow graphs: which values are some, where their nodes lead, and their runs."""

from drawloom.errors import BadGraph
from drawloom.graph_worlds import GraphWorld
from drawloom.instructions import END_PARTS, INSTRUCTION_PARTS, PHI_PARTS, is_phi, targets
from drawloom.kernels import first_word, is_head, is_tuple
from drawloom.parts import is_common_part
from drawloom.playing import played
from drawloom.words import is_between

MOST_REGISTERS = 1000
MOST_NODES = 400
# Of nodes and instructions together.
MOST_PARTS = 1000


def many_parts(nodes):
    """Return the number of nodes and instructions together."""
    return len(nodes) + sum([len(instructions) for instructions, _ in nodes])


def fits(graph):
    """Tell whether what has the form of a flow graph is not too large for one."""
    _, _, registers, nodes = graph
    return registers <= MOST_REGISTERS and len(nodes) <= MOST_NODES and many_parts(nodes) <= MOST_PARTS


def is_row(graph, value):
    """Tell whether any value is a pair of a node and a register."""
    if not is_tuple(value, 2, 2):
        return False
    return is_between(value[0], 0, len(graph[3]) - 1) and is_between(value[1], 0, graph[2] - 1)


def are_rows(graph, value):
    """Tell whether any value is a tuple of pairs of a node and a register."""
    return is_tuple(value, 0, MOST_NODES) and all([is_row(graph, row) for row in value])


def is_graph_part(graph, sort, value):
    """Tell whether any value is a part of a sort of an instruction or of an end."""
    params, shared, registers, nodes = graph
    if sort in ("read", "write"):
        return is_between(value, 0, registers - 1)
    if sort == "node":
        return is_between(value, 1, len(nodes) - 1)
    if sort == "rows":
        return are_rows(graph, value)
    return is_common_part(params, shared, sort, value)


def has_parts(graph, value, sorts):
    """Tell whether a tuple has parts of these sorts behind its first one."""
    if len(value) != 1 + len(sorts):
        return False
    return all([is_graph_part(graph, sort, part) for sort, part in zip(sorts, value[1:])])


def is_instruction(graph, value):
    """Tell whether any value is an instruction, as far as it shows by itself."""
    word = first_word(value)
    if word == "phi":
        return has_parts(graph, value, PHI_PARTS)
    sorts = INSTRUCTION_PARTS.get(word)
    return sorts is not None and has_parts(graph, value, sorts)


def is_node(graph, value):
    """Tell whether a pair of a tuple and any value is a node, as far as it shows by itself."""
    instructions, end = value
    sorts = END_PARTS.get(first_word(end))
    if sorts is None or not has_parts(graph, end, sorts):
        return False
    return all([is_instruction(graph, instruction) for instruction in instructions])


def has_form(value):
    """Tell whether any value has the form of a flow graph, and none of it is too large."""
    if not is_tuple(value, 4, 4):
        return False
    params, shared, registers, nodes = value
    if not is_head(params, shared) or not is_between(registers, 0, MOST_REGISTERS):
        return False
    if not is_tuple(nodes, 1, MOST_NODES):
        return False
    if not all([is_tuple(node, 2, 2) and isinstance(node[0], tuple) for node in nodes]):
        return False
    # Before the instructions are looked at: there may be very many of them.
    if many_parts(nodes) > MOST_PARTS:
        return False
    return all([is_node(value, node) for node in nodes])


def reached(ways, first):
    """Return a dict of the nodes that can be reached from some, those among them.

    The ways are a list of the nodes to which each one leads.
    """
    found = {node: True for node in first}
    waiting = list(first)
    while len(waiting) > 0:
        last = waiting.pop()
        for node in ways[last]:
            if node not in found:
                found[node] = True
                waiting.append(node)
    return found


def are_good_phis(instructions, origins):
    """Tell whether the phis of a node to which these nodes lead stand and are as they should."""
    writes = {}
    for at, instruction in enumerate(instructions):
        if is_phi(instruction):
            _, write, rows = instruction
            if at != len(writes) or write in writes:
                return False
            if [node for node, _ in rows] != origins or len(origins) == 0:
                return False
            writes[write] = True
    return True


def is_graph(value):
    """Tell whether any value is a flow graph."""
    if not has_form(value):
        return False
    nodes = value[3]
    if len(reached(leads_to(value), [0])) != len(nodes):
        return False
    for (instructions, _), origins in zip(nodes, comes_from(value)):
        if not are_good_phis(instructions, origins):
            return False
    return True


def check_graph(value):
    """Raise BadGraph if any value is no flow graph."""
    if not is_graph(value):
        raise BadGraph("the value is no flow graph")


def leads_to(graph):
    """Return the list, for each node, of the nodes to which it leads."""
    return [targets(end) for _, end in graph[3]]


def comes_from(graph):
    """Return the list, for each node, of the ascending list of those that lead to it."""
    found = [[] for _ in graph[3]]
    for node, ways in enumerate(leads_to(graph)):
        for target in ways:
            found[target].append(node)
    return found


def run_graph(graph, launch, turns, most):
    """Return the end, the memory, the races and the number of steps of a run by turns.

    Each thread may do `most` steps.
    """
    return played(GraphWorld(graph, launch, most), turns)
