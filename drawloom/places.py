"""Places for the registers of a flow graph without phis: registers of the machine and local cells."""

from drawloom.errors import TooLarge
from drawloom.graphs import leads_to
from drawloom.instructions import NO_REGISTER, used, used_by_end, written
from drawloom.liveness import behind_each, listed, live_behind, live_in_front

LEAST_PLACE = -64


def live_into(graph):
    """Return the list, for each node, of the ascending list of the registers live in front of it."""
    return [listed(bits) for bits in live_in_front(graph[3], leads_to(graph))]


def clash_bits(graph):
    """Return a list, for each register, of the bits of those that clash with it, perhaps its own."""
    _, _, registers, nodes = graph
    ways = leads_to(graph)
    live = live_in_front(nodes, ways)
    found = [0 for _ in range(registers)]
    for node, targets in zip(nodes, ways):
        for instruction, behind in zip(node[0], behind_each(node, live_behind(targets, live))):
            write = written(instruction)
            if write != NO_REGISTER:
                found[write] = found[write] | behind
    for number in listed(live[0]):
        found[number] = found[number] | live[0]
    return both_ways(found)


def both_ways(bits):
    """Return such a list in which each of two registers knows the other one."""
    found = list(bits)
    for number, row in enumerate(bits):
        for other in listed(row):
            found[other] = found[other] | 1 << number
    return found


def clashes(graph):
    """Return the ascending list of the pairs of registers that clash, the lesser one first."""
    found = []
    for number, bits in enumerate(clash_bits(graph)):
        found.extend([(number, other) for other in listed(bits) if other > number])
    return found


def is_right(graph, places, k):
    """Tell whether an assignment is right for k registers of the machine."""
    if len(places) != graph[2] or not all([LEAST_PLACE <= place < k for place in places]):
        return False
    return not any([places[one] == places[other] for one, other in clashes(graph)])


def by_use(nodes):
    """Return the list of the registers that occur, those that occur most often first."""
    many = {}
    for instructions, end in nodes:
        numbers = used_by_end(end)
        for instruction in instructions:
            numbers.extend(used(instruction) + [written(instruction)])
        for number in numbers:
            many[number] = many.get(number, 0) + 1
    rows = sorted([(-many[number], number) for number in many if number != NO_REGISTER])
    return [number for _, number in rows]


def first_free(taken, k):
    """Return the first place that is not taken: registers of the machine before local cells."""
    for place in range(k):
        if place not in taken:
            return place
    place = -1
    while place in taken:
        place -= 1
    return place


def assigned(graph, k):
    """Return an assignment that is right for k registers of the machine."""
    clashing = clash_bits(graph)
    found = {}
    # Each one takes the first place that is free, so that no more places are used
    # than there are registers.
    for number in by_use(graph[3]):
        taken = {found[other]: True for other in listed(clashing[number]) if other in found}
        found[number] = first_free(taken, k)
    places = tuple([found.get(number, 0) for number in range(graph[2])])
    if not all([place >= LEAST_PLACE for place in places]):
        raise TooLarge("there are too few local cells")
    return places
