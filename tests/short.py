"""Short words for parts of kernels, and what several tests ask of runs."""

from drawloom.meaning import World

TID = ("special", "tid")
BID = ("special", "bid")
DIM = ("special", "dim")
GRID = ("special", "grid")

# The parameters of most kernels of the tests: two buffers and an int.
PARAMS = (("a", "buffer"), ("n", "int"), ("b", "buffer"))
SHARED = (("s", 4), ("t", 2))

BARRIER = ("barrier",)
BREAK = ("break",)
CONTINUE = ("continue",)
RETURN = ("return",)


def word(number):
    return ("word", number)


def part(value):
    """Return an expression: integers are words, strings are names."""
    if isinstance(value, int):
        return ("word", value)
    return ("name", value) if isinstance(value, str) else value


def un(op, e):
    return ("unary", op, part(e))


def bi(op, e, f):
    return ("binary", op, part(e), part(f))


def pick(c, e, f):
    return ("pick", part(c), part(e), part(f))


def load(array, e):
    return ("load", array, part(e))


def let(name, e):
    return ("let", name, part(e))


def assign(name, e):
    return ("set", name, part(e))


def put(array, i, e):
    return ("put", array, part(i), part(e))


def atomic(op, array, i, e):
    return ("atomic", op, array, part(i), part(e))


def when(c, then=(), other=()):
    return ("if", part(c), tuple(then), tuple(other))


def loop(c, *body):
    return ("while", part(c), body)


def collect(name, op, e):
    return ("collect", name, op, part(e))


def kernel(*body):
    """Return a kernel with buffers a and b, an int n, and shared arrays s and t."""
    return (PARAMS, SHARED, body)


def launch(grid=1, block=1, a=(0,) * 8, b=(0,) * 8, n=5):
    """Return a launch of such a kernel, or of a flow graph with its parameters."""
    return (grid, block, (0, n, 1), (a, b))


def only(thread, *body):
    """Return an if of which one thread of each block does the body."""
    return when(bi("eq", TID, thread), body)


def world_after(program, start, *threads):
    """Return a world in which these threads have done a step each, in this order."""
    world = World(program, start)
    for thread in threads:
        world.step(thread)
    return world


def load_of(space, cell, thread, step):
    return (space, cell, thread, "load", step)


def store_of(space, cell, thread, step):
    return (space, cell, thread, "store", step)


A = ("buffer", 0)
B = ("buffer", 1)
