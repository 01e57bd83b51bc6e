"""Words, and the operators on them."""

BINARY = (
    "add", "sub", "mul", "div", "rem", "and", "or", "xor", "shl", "shr",
    "lt", "le", "eq", "ne", "min", "max",
)
UNARY = ("neg", "not", "zero")
FOLDING = ("add", "min", "max", "and", "or", "xor")

LEAST = -2 ** 31
GREATEST = 2 ** 31 - 1


def is_between(value, least, most):
    """Tell whether any value is an integer within these bounds."""
    # True and False are ints for Python, but they are no integers here.
    if not isinstance(value, int) or isinstance(value, bool):
        return False
    return least <= value <= most


def is_word(value):
    """Tell whether any value is a word."""
    return is_between(value, LEAST, GREATEST)


def wrapped(number):
    """Return the word that is equal to an integer modulo 2 ** 32."""
    return (number - LEAST) % 2 ** 32 + LEAST


def sum_of(a, b):
    """Return a + b."""
    return a + b


def difference(a, b):
    """Return a - b."""
    return a - b


def product_of(a, b):
    """Return a * b."""
    return a * b


def quotient(a, b):
    """Return a / b rounded towards 0, or 0 if b is 0."""
    if b == 0:
        return 0
    # // rounds down, which is towards 0 only if the quotient is not negative.
    size = abs(a) // abs(b)
    return size if (a < 0) == (b < 0) else -size


def remainder(a, b):
    """Return what quotient leaves of a, or 0 if b is 0."""
    return 0 if b == 0 else a - b * quotient(a, b)


def bits_of_both(a, b):
    """Return the bits that a and b have."""
    return a & b


def bits_of_any(a, b):
    """Return the bits that a or b has."""
    return a | b


def bits_of_one(a, b):
    """Return the bits that just one of a and b has."""
    return a ^ b


def shifted_left(a, b):
    """Return a shifted to the left by the lowest five bits of b."""
    return a << (b & 31)


def shifted_right(a, b):
    """Return a shifted to the right, with copies of its sign."""
    return a >> (b & 31)


def is_less(a, b):
    """Return 1 if a < b, otherwise 0."""
    return 1 if a < b else 0


def is_at_most(a, b):
    """Return 1 if a <= b, otherwise 0."""
    return 1 if a <= b else 0


def is_equal(a, b):
    """Return 1 if a is b, otherwise 0."""
    return 1 if a == b else 0


def is_other(a, b):
    """Return 1 if a is not b, otherwise 0."""
    return 1 if a != b else 0


def lesser(a, b):
    """Return the lesser one of a and b."""
    return a if a < b else b


def greater(a, b):
    """Return the greater one of a and b."""
    return a if a > b else b


def negative(a):
    """Return 0 - a."""
    return -a


def turned_bits(a):
    """Return a with all bits turned."""
    return ~a


def is_zero(a):
    """Return 1 if a is 0, otherwise 0."""
    return 1 if a == 0 else 0


BINARY_ACTIONS = {
    "add": sum_of, "sub": difference, "mul": product_of,
    "div": quotient, "rem": remainder,
    "and": bits_of_both, "or": bits_of_any, "xor": bits_of_one,
    "shl": shifted_left, "shr": shifted_right,
    "lt": is_less, "le": is_at_most, "eq": is_equal, "ne": is_other,
    "min": lesser, "max": greater,
}
UNARY_ACTIONS = {"neg": negative, "not": turned_bits, "zero": is_zero}
NEUTRAL = {"add": 0, "min": 2 ** 31 - 1, "max": -2 ** 31, "and": -1, "or": 0, "xor": 0}


def binary(op, a, b):
    """Return the word that a binary operator makes of two words."""
    action = BINARY_ACTIONS[op]
    return wrapped(action(a, b))


def unary(op, a):
    """Return the word that a unary operator makes of a word."""
    action = UNARY_ACTIONS[op]
    return wrapped(action(a))


def neutral(op):
    """Return the neutral word of an operator that folds."""
    return NEUTRAL[op]


def fold(op, words):
    """Return the combination of some words by an operator that folds."""
    total = NEUTRAL[op]
    for word in words:
        total = binary(op, total, word)
    return total
