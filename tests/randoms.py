"""Random kernels, launches, flow graphs and code, the same ones in each run of the tests."""

import random

from drawloom.codes import check_code
from drawloom.graphs import check_graph
from drawloom.words import BINARY, FOLDING, UNARY

WORDS = (0, 1, 1, 2, 3, -1, 5, 7, 2 ** 31 - 1, -2 ** 31)
PARAMS = (("a", "buffer"), ("n", "int"), ("b", "buffer"), ("m", "int"))
SHARED = (("s", 8), ("t", 3))
ARRAYS = ("a", "b", "s", "t")

# The cell of a buffer that only one thread uses, and the one of a shared array.
OWN = ("binary", "add", ("binary", "mul", ("special", "bid"), ("special", "dim")), ("special", "tid"))
OWN_SHARED = ("special", "tid")


def size_of(part):
    """Return the number of the statements and expressions of a part of a kernel."""
    if not isinstance(part, tuple):
        return 0
    many = 1 if part and isinstance(part[0], str) else 0
    return many + sum(size_of(inner) for inner in part)


def size(kernel):
    """Return the size of a kernel as point 12 says."""
    return size_of(kernel[2])


class KernelMaker:
    """Makes random kernels whose loops mostly end, and which often have no races."""

    def __init__(self, seed, wild=False):
        self.dice = random.Random(seed)
        self.names = 0
        # A wild one takes any cell and puts barriers and returns anywhere.
        self.wild = wild

    def chance(self, part):
        return self.dice.random() < part

    def fresh(self):
        self.names += 1
        return f"v{self.names}"

    def leaf(self, known):
        kind = self.dice.randrange(4)
        if kind == 0 or not known:
            return ("word", self.dice.choice(WORDS))
        if kind == 1:
            return ("special", self.dice.choice(("tid", "bid", "dim", "grid")))
        return ("name", self.dice.choice(known))

    def cell(self, array, known, depth):
        if self.wild and self.chance(0.7):
            return self.expression(known, depth - 1)
        if self.chance(0.1):
            return ("word", self.dice.choice((-1, 40)))
        return OWN if array in ("a", "b") else OWN_SHARED

    def expression(self, known, depth=3):
        if depth <= 1 or self.chance(0.3):
            return self.leaf(known)
        kind = self.dice.randrange(8)
        if kind == 0:
            return ("unary", self.dice.choice(UNARY), self.expression(known, depth - 1))
        if kind <= 4:
            op = self.dice.choice(BINARY)
            return ("binary", op, self.expression(known, depth - 1), self.expression(known, depth - 1))
        if kind == 5:
            return ("pick",) + tuple(self.expression(known, depth - 1) for _ in range(3))
        array = self.dice.choice(("a", "s"))
        return ("load", array, self.cell(array, known, depth))

    def body(self, known, many, depth, looped):
        """Return a random body of up to many statements."""
        known = list(known)
        found = []
        for _ in range(self.dice.randrange(many + 1)):
            found.extend(self.statements(known, depth, looped))
        return tuple(found)

    def statements(self, known, depth, looped):
        kind = self.dice.randrange(16)
        if kind <= 2:
            name = self.fresh()
            row = ("let", name, self.expression(known))
            known.append(name)
            return [row]
        if kind <= 5 and known:
            settable = [name for name in known if not name.startswith("c")]
            if settable:
                return [("set", self.dice.choice(settable), self.expression(known))]
        if kind <= 7:
            array = self.dice.choice(("a", "s"))
            return [("put", array, self.cell(array, known, 2), self.expression(known))]
        if kind == 8:
            array = self.dice.choice(("b", "t"))
            op = self.dice.choice(FOLDING) if self.wild else {"b": "add", "t": "max"}[array]
            return [("atomic", op, array, self.expression(known, 2), self.expression(known))]
        if kind <= 10 and depth > 1:
            return [("if", self.expression(known), self.body(known, 3, depth - 1, looped),
                     self.body(known, 2, depth - 1, looped))]
        if kind <= 12 and depth > 1:
            return self.loop(known, depth)
        if kind == 13 and looped:
            return [(self.dice.choice(("break", "continue")),)]
        if kind == 14 and self.chance(0.3):
            return [("return",)]
        if kind == 15 and depth < 4 and self.chance(0.5):
            # All threads of a block mostly come here, or none of them.
            test = ("binary", "lt", ("special", "bid"), ("word", 2))
            return [("if", test, tuple(self.meeting(known[:], 4)), ())]
        return self.meeting(known, depth)

    def loop(self, known, depth):
        """Return statements of a loop that counts down, and mostly ends."""
        self.names += 1
        name = f"c{self.names}"
        known.append(name)
        lower = ("set", name, ("binary", "sub", ("name", name), ("word", 1)))
        body = (lower,) + self.body(known, 4, depth - 1, True)
        test = ("binary", "lt", ("word", 0), ("name", name))
        return [("let", name, ("word", self.dice.randrange(4))), ("while", test, body)]

    def meeting(self, known, depth):
        """Return a barrier or a collect, mostly only where all threads come."""
        if depth < 4 and not (self.wild and self.chance(0.6)):
            return []
        if self.chance(0.5):
            return [("barrier",)]
        name = self.fresh()
        row = ("collect", name, self.dice.choice(FOLDING), self.expression(known))
        known.append(name)
        return [row]

    def kernel(self, many=8):
        return (PARAMS, SHARED, self.body(["n", "m"], many, 4, False))


def random_kernel(seed, wild=False, many=8):
    """Return a random kernel."""
    return KernelMaker(seed, wild).kernel(many)


def random_launch(seed):
    """Return a random launch of a random kernel or flow graph."""
    dice = random.Random(seed)
    buffers = tuple(
        tuple(dice.choice(WORDS) for _ in range(dice.choice((0, 3, 8, 24)))) for _ in range(dice.randrange(2, 4))
    )
    arguments = (0, dice.choice(WORDS), 1, dice.choice(WORDS))
    return (dice.randrange(1, 4), dice.randrange(1, 5), arguments, buffers)


def random_turns(seed, many):
    """Return a random list of turns."""
    dice = random.Random(seed)
    return [dice.randrange(-50, 50) for _ in range(many)]


class GraphMaker:
    """Makes random flow graphs without phis, with any ways between their nodes."""

    def __init__(self, seed, wild=False):
        self.dice = random.Random(seed)
        self.wild = wild

    def instruction(self, registers):
        dice = self.dice
        first, second, third = (dice.randrange(registers) for _ in range(3))
        kind = dice.randrange(16)
        if kind <= 1:
            return ("word", first, dice.choice(WORDS))
        if kind == 2:
            return ("param", first, dice.choice((1, 3)))
        if kind == 3:
            return ("special", first, dice.choice(("tid", "bid", "dim", "grid")))
        if kind <= 5:
            return ("copy", first, second)
        if kind == 6:
            return ("unary", dice.choice(UNARY), first, second)
        if kind <= 9:
            return ("binary", dice.choice(BINARY), first, second, third)
        if kind == 10:
            return ("load", first, dice.choice((0, 6)), second)
        if kind == 11 and self.wild:
            return ("store", dice.choice((0, 6)), first, second)
        if kind == 12:
            array = dice.choice((2, 7))
            op = dice.choice(FOLDING) if self.wild else {2: "add", 7: "max"}[array]
            return ("atomic", op, array, first, second)
        if self.wild and kind >= 13:
            if dice.random() < 0.5:
                return ("barrier", dice.randrange(2))
            return ("collect", dice.choice(FOLDING), first, second, dice.randrange(2))
        return ("binary", "sub", first, first, second)

    def end(self, many, registers):
        kind = self.dice.randrange(10)
        if many == 1 or kind <= 1:
            return ("exit",)
        first, second = self.dice.randrange(1, many), self.dice.randrange(1, many)
        if kind <= 3:
            return ("jump", first)
        return ("branch", self.dice.randrange(registers), first, second)

    def graph(self, most_nodes=9, most_registers=6):
        many = self.dice.randrange(1, most_nodes + 1)
        registers = self.dice.randrange(1, most_registers + 1)
        nodes = []
        for _ in range(many):
            row = tuple(self.instruction(registers) for _ in range(self.dice.randrange(6)))
            nodes.append((row, self.end(many, registers)))
        if self.dice.random() < 0.7:
            # So that threads part.
            number = self.dice.randrange(registers)
            nodes[0] = ((("special", number, "tid"),) + nodes[0][0], nodes[0][1])
        return (PARAMS, SHARED, registers, pruned(nodes))


def goes_to(end):
    """Return the nodes to which an end leads."""
    return end[-1:] if end[0] == "jump" else end[2:]


def led_to(end, numbers):
    """Return an end with other numbers of nodes."""
    return end[:len(end) - len(goes_to(end))] + tuple(numbers[node] for node in goes_to(end))


def pruned(nodes):
    """Return the tuple of the nodes that can be reached from the first one."""
    kept, waiting = {0}, [0]
    while waiting:
        for other in goes_to(nodes[waiting.pop()][1]):
            if other not in kept:
                kept.add(other)
                waiting.append(other)
    numbers = {node: index for index, node in enumerate(sorted(kept))}
    return tuple((nodes[node][0], led_to(nodes[node][1], numbers)) for node in sorted(kept))


def random_graph(seed, wild=False, most_nodes=9, most_registers=6):
    """Return a random flow graph without phis."""
    graph = GraphMaker(seed, wild).graph(most_nodes, most_registers)
    check_graph(graph)
    return graph


class CodeMaker(GraphMaker):
    """Makes random code with any ways between its instructions, and any joins."""

    def row(self, many, local):
        dice = self.dice
        first, second = dice.randrange(4), dice.randrange(4)
        kind = dice.randrange(12)
        if kind <= 2:
            return ("branch", first, dice.randrange(many), dice.randrange(many + 1))
        if kind == 3:
            return ("jump", dice.randrange(many))
        if kind == 4 and local > 0:
            cell = dice.randrange(local)
            return dice.choice((("get", first, cell), ("keep", cell, second)))
        if kind == 5 and dice.random() < 0.4:
            return ("exit",)
        return self.instruction(4)

    def code(self, most_rows=24):
        many = self.dice.randrange(1, most_rows + 1)
        local = self.dice.randrange(4)
        rows = [self.row(many, local) for _ in range(many - 1)]
        rows.append(self.dice.choice((("exit",), ("exit",), ("jump", self.dice.randrange(many)))))
        # So that threads part.
        if many > 4:
            rows[0] = ("special", self.dice.randrange(4), "tid")
            rows[1] = ("special", self.dice.randrange(4), "bid")
        return (PARAMS, SHARED, local, tuple(rows))


def random_code(seed, wild=False, most_rows=24):
    """Return random code."""
    code = CodeMaker(seed, wild).code(most_rows)
    check_code(code)
    return code


def random_shape(seed, blocks=1):
    """Return a random shape that has a slot for each of so many blocks."""
    dice = random.Random(seed)
    width, room = dice.randrange(1, 9), dice.randrange(5)
    cores, slots = dice.randrange(1, 5), dice.randrange(1, 5)
    if cores * slots < blocks:
        cores = blocks
    return (width, dice.random() < 0.5, cores, slots, room)
