"""Short words for code, and what several tests ask of its lanes."""

from drawloom.codes import check_code
from tests.short import PARAMS, SHARED

# Arrays by their numbers: the buffers a and b, the shared arrays s and t.
TO_A, TO_B, TO_S, TO_T = 0, 2, 6, 7
EXIT = ("exit",)
NONE = ("none",)

# Each instruction once, for code with two local cells; the numbers of the arrays and
# parameters are those of the tests' kernels.
EACH = (
    ("word", 0, 5), ("param", 1, 1), ("special", 2, "tid"), ("copy", 3, 0), ("unary", "neg", 4, 3),
    ("binary", "add", 5, 4, 3), ("load", 6, TO_A, 5), ("store", TO_T, 6, 5), ("atomic", "max", TO_B, 0, 1),
    ("barrier", 99), ("collect", "xor", 7, 6, 0), ("get", 0, 1), ("keep", 0, 7), ("branch", 1, 0, 16), ("jump", 15), EXIT,
)


def code(*rows, local=0):
    """Return code with these instructions for the parameters and shared arrays of the tests."""
    value = (PARAMS, SHARED, local, rows)
    check_code(value)
    return value


def state(at, *registers, cells=()):
    """Return the state of a lane whose other registers are 0."""
    return (at, registers + (0,) * (8 - len(registers)), cells)


def put(cell, number, first=6):
    """Return the instructions that store a register in a cell of the buffer a."""
    return (("word", first, cell), ("store", TO_A, first, number))
