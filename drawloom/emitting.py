"""Flow graphs without phis become code."""

from drawloom.codes import MOST_INSTRUCTIONS
from drawloom.dominators import NO_NODE, postdominators
from drawloom.errors import BadGraph, TooLarge
from drawloom.forming import in_form, out_of_form
from drawloom.improving import improved
from drawloom.instructions import NO_REGISTER, rebuilt, used, written
from drawloom.lowering import lowered
from drawloom.places import assigned, is_right

# Registers from this one on are no places: words pass through them from and to local cells.
FIRST_SPARE = 5


def cell_of(place):
    """Return the number of the local cell that a place below 0 is."""
    return -1 - place


def fetched(numbers, places):
    """Return the rows that get words from local cells, and the list of the registers for all.

    The numbers are those of the registers of the graph whose words are to be there.
    """
    rows = []
    reads = []
    for number in numbers:
        place = places[number]
        if place < 0:
            spare = FIRST_SPARE + len(rows)
            rows.append(("get", spare, cell_of(place)))
            place = spare
        reads.append(place)
    return rows, reads


def move_rows(origin, target):
    """Return the rows that bring a word from one place to another one."""
    if origin == target:
        return []
    if target >= 0:
        return [("get", target, cell_of(origin)) if origin < 0 else ("copy", target, origin)]
    if origin >= 0:
        return [("keep", cell_of(target), origin)]
    return [("get", FIRST_SPARE, cell_of(origin)), ("keep", cell_of(target), FIRST_SPARE)]


def instruction_rows(instruction, places):
    """Return the rows that stand for an instruction."""
    write = written(instruction)
    if instruction[0] == "copy":
        return move_rows(places[instruction[2]], places[write])
    rows, reads = fetched(used(instruction), places)
    if write == NO_REGISTER:
        return rows + [rebuilt(instruction, NO_REGISTER, reads)]
    target = places[write]
    if target >= 0:
        return rows + [rebuilt(instruction, target, reads)]
    # All words are read before the register is written, so one that was read will do.
    return rows + [rebuilt(instruction, FIRST_SPARE, reads), ("keep", cell_of(target), FIRST_SPARE)]


def end_rows(end, following, join, places):
    """Return the rows that stand for an end, with nodes where indices are to be.

    The node that follows needs no jump.
    """
    if end[0] == "exit":
        return [end]
    if end[0] == "jump":
        return [] if end[1] == following else [end]
    _, number, first, second = end
    rows, reads = fetched([number], places)
    rows.append(("branch", reads[0], first, join))
    return rows if second == following else rows + [("jump", second)]


def pieces(graph, places):
    """Return the list, for each node, of the rows that stand for it, with nodes for indices.

    The number of nodes stands for the index behind everything.
    """
    nodes = graph[3]
    found = []
    for number, ((instructions, end), join) in enumerate(zip(nodes, postdominators(graph))):
        rows = []
        for instruction in instructions:
            rows.extend(instruction_rows(instruction, places))
        meeting = len(nodes) if join == NO_NODE else join
        found.append(rows + end_rows(end, number + 1, meeting, places))
    return found


def with_indices(row, starts):
    """Return a row with indices for nodes, given the index at which each of these starts."""
    if row[0] == "jump":
        return ("jump", starts[row[1]])
    if row[0] == "branch":
        _, number, target, join = row
        return ("branch", number, starts[target], starts[join])
    return row


def emitted(graph, places):
    """Return code that does the same as a flow graph without phis."""
    if not is_right(graph, places, FIRST_SPARE):
        raise BadGraph("the assignment is not right")
    starts = []
    instructions = []
    for piece in pieces(graph, places):
        starts.append(len(instructions))
        instructions.extend(piece)
    if len(instructions) > MOST_INSTRUCTIONS:
        raise TooLarge("the code would be too large")
    starts.append(len(instructions))
    local = max([0] + [cell_of(place) + 1 for place in places])
    return (graph[0], graph[1], local, tuple([with_indices(row, starts) for row in instructions]))


def compiled(kernel, k):
    """Return the code of a kernel, the words of which have places in k registers and local cells."""
    graph = out_of_form(improved(in_form(lowered(kernel))))
    return emitted(graph, assigned(graph, k))
