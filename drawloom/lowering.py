"""Kernels become flow graphs."""

from drawloom.cells import array_numbers
from drawloom.errors import TooLarge
from drawloom.graphs import fits
from drawloom.paths import NOTHING, paths

JUMPS = ("break", "continue", "return")
FORKS = ("if", "while")


def resolved(rows, number):
    """Return the statement that is next where one is that does nothing but lead on."""
    while number != NOTHING and rows[number][0][0] in JUMPS:
        number = rows[number][1]
    return number


def resolved_paths(kernel):
    """Return what `paths` does, with no break, continue or return that is next."""
    first, rows = paths(kernel)
    found = []
    for statement, follower, otherwise in rows:
        found.append((statement, resolved(rows, follower), resolved(rows, otherwise)))
    return (resolved(rows, first), found)


def numbered_nodes(first, rows):
    """Return a dict from the statements with which nodes begin to the numbers of the nodes.

    The end of the kernel is one of them if a statement can lead there and elsewhere.
    """
    many = {first: 1}
    forked = {}
    waiting = [] if first == NOTHING else [first]
    while len(waiting) > 0:
        statement, follower, otherwise = rows[waiting.pop()]
        ways = [follower, otherwise] if statement[0] in FORKS else [follower]
        for number in ways:
            if number not in many and number != NOTHING:
                waiting.append(number)
            many[number] = many.get(number, 0) + 1
            if statement[0] in FORKS:
                forked[number] = True
    # Behind a statement that leads nowhere else the end needs no node of its own.
    starts = [number for number in many if number in forked or (many[number] > 1 and number != NOTHING)]
    numbers = {}
    for number in sorted(starts):
        numbers[number] = len(numbers) + 1
    return numbers


class Lowering:
    """A kernel that becomes a flow graph."""

    def __init__(self, kernel):
        self.arrays = array_numbers(kernel)
        self.first, self.rows = resolved_paths(kernel)
        self.numbers = numbered_nodes(self.first, self.rows)
        self.variables = {}
        self.many = 0
        # The instructions of the node that is just written.
        self.written_ones = []

    def fresh(self):
        """Return a register that has no use yet."""
        self.many += 1
        return self.many - 1

    def variable(self, name):
        """Return the register of a variable or a parameter."""
        # Two variables with one name are never known at one place: one register will do.
        if name not in self.variables:
            self.variables[name] = self.fresh()
        return self.variables[name]

    def emit(self, instruction):
        """Write an instruction."""
        self.written_ones.append(instruction)

    def all_nodes(self):
        """Return the list of the nodes, but for the parameters in the first one."""
        found = [self.node(self.first)]
        for number in self.numbers:
            found.append(self.node_from(number))
        return found

    def node(self, number):
        """Return a node that goes on at a statement, where another node may begin."""
        if number in self.numbers:
            return ((), ("jump", self.numbers[number]))
        return self.node_from(number)

    def node_from(self, number):
        """Return the node that begins with a statement."""
        self.written_ones = []
        end = ("exit",)
        while number != NOTHING:
            statement, follower, otherwise = self.rows[number]
            if statement[0] in FORKS:
                condition = self.value(statement[1])
                end = ("branch", condition, self.numbers[follower], self.numbers[otherwise])
                break
            self.statement(number, statement)
            if follower in self.numbers and follower != NOTHING:
                end = ("jump", self.numbers[follower])
                break
            number = follower
        return (tuple(self.written_ones), end)

    def statement(self, number, statement):
        """Write a statement with one follower."""
        word = statement[0]
        if word in ("let", "set"):
            self.value_into(statement[2], self.variable(statement[1]))
        elif word == "barrier":
            self.emit(("barrier", number))
        elif word == "collect":
            _, name, op, expression = statement
            part = self.value(expression)
            self.emit(("collect", op, self.variable(name), part, number))
        else:
            array, index, expression = statement[-3:]
            cell = self.value(index)
            part = self.value(expression)
            head = ("store",) if word == "put" else ("atomic", statement[1])
            self.emit(head + (self.arrays[array], cell, part))

    def value(self, expression):
        """Write an expression; return the register that has its word."""
        # Nothing sets a variable before the word is used.
        if expression[0] == "name":
            return self.variable(expression[1])
        write = self.fresh()
        self.value_into(expression, write)
        return write

    def value_into(self, expression, write):
        """Write an expression whose word a register gets, by the last instruction."""
        word = expression[0]
        if word in ("word", "special"):
            self.emit((word, write, expression[1]))
        elif word == "name":
            self.emit(("copy", write, self.variable(expression[1])))
        elif word == "load":
            cell = self.value(expression[2])
            self.emit(("load", write, self.arrays[expression[1]], cell))
        elif word == "pick":
            self.pick_into([self.value(part) for part in expression[1:]], write)
        else:
            parts = [self.value(part) for part in expression[2:]]
            self.emit((word, expression[1], write) + tuple(parts))

    def pick_into(self, parts, write):
        """Write what picks one of two registers, without a branch."""
        condition, first, second = parts
        mask = self.fresh()
        # All bits of the mask are set if the condition is 0, otherwise none: it takes
        # the bits in which the two differ, and turned these make the first the second.
        self.emit(("unary", "zero", mask, condition))
        self.emit(("unary", "neg", mask, mask))
        bits = self.fresh()
        self.emit(("binary", "xor", bits, first, second))
        self.emit(("binary", "and", bits, bits, mask))
        self.emit(("binary", "xor", write, first, bits))


def lowered(kernel):
    """Return a flow graph without phis that does the same as a kernel."""
    params, shared, _ = kernel
    lowering = Lowering(kernel)
    nodes = lowering.all_nodes()
    first = []
    for index, (name, _) in enumerate(params):
        if name in lowering.variables:
            first.append(("param", lowering.variables[name], index))
    nodes[0] = (tuple(first) + nodes[0][0], nodes[0][1])
    graph = (params, shared, lowering.many, tuple(nodes))
    if not fits(graph):
        raise TooLarge("the flow graph would be too large")
    return graph
