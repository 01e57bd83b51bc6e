"""Machine code: which values are some, and its runs."""

from drawloom.code_worlds import CodeWorld
from drawloom.errors import BadCode
from drawloom.instructions import INSTRUCTION_PARTS
from drawloom.kernels import first_word, is_head, is_tuple
from drawloom.lanes import MANY_REGISTERS
from drawloom.parts import is_common_part
from drawloom.playing import played
from drawloom.words import is_between

MOST_CELLS = 64
MOST_INSTRUCTIONS = 2000

# The sorts of the parts of the instructions that those of flow graphs are not.
CODE_PARTS = {
    "get": ("write", "cell"),
    "keep": ("cell", "read"),
    "jump": ("index",),
    "branch": ("read", "index", "join"),
    "exit": (),
}


def is_code_part(code, sort, value):
    """Tell whether any value is a part of a sort of an instruction of code."""
    params, shared, local, instructions = code
    if sort in ("read", "write"):
        return is_between(value, 0, MANY_REGISTERS - 1)
    if sort == "cell":
        return is_between(value, 0, local - 1)
    if sort == "index":
        return is_between(value, 0, len(instructions) - 1)
    if sort == "join":
        return is_between(value, 0, len(instructions))
    return is_common_part(params, shared, sort, value)


def is_code_instruction(code, value):
    """Tell whether any value is an instruction of what has the form of code."""
    word = first_word(value)
    sorts = CODE_PARTS.get(word, INSTRUCTION_PARTS.get(word))
    if sorts is None or len(value) != 1 + len(sorts):
        return False
    return all([is_code_part(code, sort, part) for sort, part in zip(sorts, value[1:])])


def is_code(value):
    """Tell whether any value is machine code."""
    if not is_tuple(value, 4, 4):
        return False
    params, shared, local, instructions = value
    if not is_head(params, shared) or not is_between(local, 0, MOST_CELLS):
        return False
    if not is_tuple(instructions, 1, MOST_INSTRUCTIONS):
        return False
    # So no thread ever comes behind the last one.
    if first_word(instructions[-1]) not in ("exit", "jump"):
        return False
    return all([is_code_instruction(value, instruction) for instruction in instructions])


def check_code(value):
    """Raise BadCode if any value is no machine code."""
    if not is_code(value):
        raise BadCode("the value is no machine code")


def run_code(code, launch, turns, most):
    """Return the end, the memory, the races and the number of steps of a run by turns.

    Each thread may do `most` steps.
    """
    return played(CodeWorld(code, launch, most), turns)
