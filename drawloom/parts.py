"""Parts of instructions that flow graphs and code have in common: which values are some."""

from drawloom.cells import FIRST_SHARED
from drawloom.kernels import is_choice
from drawloom.words import is_between, is_word

MOST_NUMBER = 99


def is_array(params, shared, value):
    """Tell whether any value is the number of an array."""
    if is_between(value, FIRST_SHARED, FIRST_SHARED + len(shared) - 1):
        return True
    return is_between(value, 0, len(params) - 1) and params[value][1] == "buffer"


def is_int_param(params, value):
    """Tell whether any value is the index of a parameter that is an int."""
    return is_between(value, 0, len(params) - 1) and params[value][1] == "int"


def is_common_part(params, shared, sort, value):
    """Tell whether any value is a part of a sort that does not depend on nodes or registers."""
    if sort == "word":
        return is_word(value)
    if sort == "param":
        return is_int_param(params, value)
    if sort == "array":
        return is_array(params, shared, value)
    if sort == "number":
        return is_between(value, 0, MOST_NUMBER)
    return is_choice(sort, value)
