"""Flow graphs in single assignment form: which ones are, and the ways into it and out of it."""

from drawloom.dominators import dominators, frontiers, is_above, outward_order
from drawloom.errors import BadGraph, NotInForm, TooLarge
from drawloom.graphs import comes_from, fits, leads_to
from drawloom.instructions import (
    NO_REGISTER, end_with, is_phi, others_of, phis_of, rebuilt, used, used_by_end, written,
)
from drawloom.liveness import live_in_front


def writers(nodes):
    """Return a dict from each register that is written to the list of the places that do so.

    A place is a pair of a node and an index among its instructions.
    """
    found = {}
    for node, (instructions, _) in enumerate(nodes):
        for at, instruction in enumerate(instructions):
            write = written(instruction)
            if write != NO_REGISTER:
                found.setdefault(write, []).append((node, at))
    return found


def uses(nodes):
    """Return a list of all uses: a register, a node and an index among its instructions."""
    found = []
    for node, (instructions, end) in enumerate(nodes):
        for at, instruction in enumerate(instructions):
            found.extend([(number, node, at) for number in used(instruction)])
            if is_phi(instruction):
                for origin, number in instruction[2]:
                    found.append((number, origin, len(nodes[origin][0])))
        found.extend([(number, node, len(instructions)) for number in used_by_end(end)])
    return found


def is_in_form(graph):
    """Tell whether a flow graph is in single assignment form."""
    nodes = graph[3]
    places = writers(nodes)
    if any([len(rows) > 1 for rows in places.values()]):
        return False
    immediate = dominators(graph)
    for number, node, at in uses(nodes):
        if number not in places:
            return False
        origin, index = places[number][0]
        before = index < at if origin == node else is_above(immediate, origin, node)
        if not before:
            return False
    return True


def check_form(graph):
    """Raise NotInForm if a flow graph is not in single assignment form."""
    if not is_in_form(graph):
        raise NotInForm("the flow graph is not in single assignment form")


def check_size(graph):
    """Raise TooLarge if a result is too large for a flow graph."""
    if not fits(graph):
        raise TooLarge("the result would be too large")


def joins(graph):
    """Return a list, for each node, of the ascending list of the registers that need a phi there.

    These are the live ones that several writes reach.
    """
    nodes = graph[3]
    fronts = frontiers(graph)
    live = live_in_front(nodes, leads_to(graph))
    found = [[] for _ in nodes]
    places = writers(nodes)
    for number in sorted(places):
        waiting = [node for node, _ in places[number]]
        seen = {}
        while len(waiting) > 0:
            last = waiting.pop()
            for node in fronts[last]:
                if node not in seen and live[node] >> number & 1 == 1:
                    seen[node] = True
                    found[node].append(number)
                    waiting.append(node)
    return found


class Renaming:
    """The registers of a flow graph, renamed so that each is written once."""

    def __init__(self, graph):
        self.nodes = graph[3]
        self.joins = joins(graph)
        self.origins = comes_from(graph)
        self.many = 0
        self.zero = NO_REGISTER
        # For each node what its phis write, its other instructions and its end.
        self.writes = [[] for _ in self.nodes]
        self.bodies = [([], ("exit",)) for _ in self.nodes]
        # For each node the new names of the old registers at its end.
        self.names = [{} for _ in self.nodes]
        immediate = dominators(graph)
        for node in outward_order(0, leads_to(graph)):
            above = immediate[node]
            self.rename(node, {} if node == 0 else dict(self.names[above]))

    def fresh(self):
        """Return a register that has no use yet."""
        self.many += 1
        return self.many - 1

    def name(self, names, number):
        """Return the new name of a register, where some have one already."""
        if number in names:
            return names[number]
        # No write comes before this: the register is still 0.
        if self.zero == NO_REGISTER:
            self.zero = self.fresh()
        return self.zero

    def rename(self, node, names):
        """Rename the registers of a node, given the names in front of it."""
        for number in self.joins[node]:
            names[number] = self.fresh()
            self.writes[node].append(names[number])
        found = []
        instructions, end = self.nodes[node]
        for instruction in instructions:
            reads = [self.name(names, number) for number in used(instruction)]
            write = written(instruction)
            if write != NO_REGISTER:
                names[write] = self.fresh()
                write = names[write]
            found.append(rebuilt(instruction, write, reads))
        reads = [self.name(names, number) for number in used_by_end(end)]
        self.bodies[node] = (found, end_with(end, reads))
        self.names[node] = names

    def phis(self, node):
        """Return the list of the phis of a node."""
        found = []
        for number, write in zip(self.joins[node], self.writes[node]):
            rows = [(origin, self.name(self.names[origin], number)) for origin in self.origins[node]]
            found.append(("phi", write, tuple(rows)))
        return found

    def result(self):
        """Return the list of the nodes with their new registers."""
        fronts = [self.phis(node) for node in range(len(self.nodes))]
        if self.zero != NO_REGISTER:
            fronts[0].append(("word", self.zero, 0))
        return [(tuple(front + found), end) for front, (found, end) in zip(fronts, self.bodies)]


def in_form(graph):
    """Return a flow graph in single assignment form that does the same as one without phis."""
    params, shared, _, nodes = graph
    if any([len(phis_of(node)) > 0 for node in nodes]):
        raise BadGraph("the flow graph has a phi")
    renaming = Renaming(graph)
    found = tuple(renaming.result())
    result = (params, shared, renaming.many, found)
    check_size(result)
    return result


def phi_copies(nodes, numbers):
    """Return two lists, for each node, of copies: those in front of it and those at its end.

    A register of its own takes the word of each phi at the ends of the nodes that lead
    to it, whether they go there or elsewhere; the phi becomes a copy of that one. So no
    phi can see what another one of its node has written.
    """
    fronts = [[] for _ in nodes]
    ends = [[] for _ in nodes]
    many = len(numbers)
    for node, row in enumerate(nodes):
        for _, write, rows in phis_of(row):
            fronts[node].append(("copy", numbers[write], many))
            for origin, number in rows:
                ends[origin].append(("copy", many, numbers[number]))
            many += 1
    return fronts, ends


def renumbered(node, numbers):
    """Return the instructions of a node but phis, and its end, with registers by a dict."""
    found = []
    for instruction in others_of(node):
        reads = [numbers[number] for number in used(instruction)]
        found.append(rebuilt(instruction, numbers.get(written(instruction)), reads))
    return found, end_with(node[1], [numbers[number] for number in used_by_end(node[1])])


def out_of_form(graph):
    """Return a flow graph without phis that does the same as one in single assignment form."""
    check_form(graph)
    params, shared, _, nodes = graph
    # Only those that are written, which all that occur are: so there is room for those of the phis.
    numbers = {number: index for index, number in enumerate(sorted(writers(nodes)))}
    fronts, ends = phi_copies(nodes, numbers)
    found = []
    for node, front, last in zip(nodes, fronts, ends):
        instructions, end = renumbered(node, numbers)
        found.append((tuple(front + instructions + last), end))
    many = len(numbers) + sum([len(front) for front in fronts])
    result = (params, shared, many, tuple(found))
    check_size(result)
    return result
