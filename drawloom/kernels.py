"""Kernels and launches: which values are good ones, and the statements of a kernel."""

from drawloom.errors import BadKernel, BadLaunch
from drawloom.words import BINARY, FOLDING, UNARY, is_between, is_word

LETTERS = "abcdefghijklmnopqrstuvwxyz"
DIGITS = "0123456789"
SPECIALS = ("tid", "bid", "dim", "grid")

MOST_LETTERS = 12
MOST_PARAMS = 6
MOST_SHARED = 3
MOST_SHARED_CELLS = 16
DEEPEST_BODY = 10
DEEPEST_EXPRESSION = 10
MOST_STATEMENTS = 100

MOST_BLOCKS = 4
MOST_THREADS = 8
MOST_BUFFERS = 4
MOST_BUFFER_CELLS = 24

# The sorts of the parts that stand behind the first word of an expression or a
# statement. "int" and "array" are names of known things, "new" is one to declare.
EXPRESSION_PARTS = {
    "word": ("word",),
    "name": ("int",),
    "special": ("special",),
    "unary": ("unary", "expression"),
    "binary": ("binary", "expression", "expression"),
    "pick": ("expression", "expression", "expression"),
    "load": ("array", "expression"),
}
STATEMENT_PARTS = {
    "let": ("new", "expression"),
    "set": ("int", "expression"),
    "put": ("array", "expression", "expression"),
    "atomic": ("folding", "array", "expression", "expression"),
    "if": ("expression", "body", "body"),
    "while": ("expression", "body"),
    "break": (),
    "continue": (),
    "return": (),
    "barrier": (),
    "collect": ("new", "folding", "expression"),
}


def is_tuple(value, least, most):
    """Tell whether any value is a tuple whose length is within these bounds."""
    return isinstance(value, tuple) and least <= len(value) <= most


def is_name(value):
    """Tell whether any value is a name."""
    if not isinstance(value, str) or not 1 <= len(value) <= MOST_LETTERS:
        return False
    if value[0] not in LETTERS:
        return False
    return all([letter in LETTERS or letter in DIGITS for letter in value])


def is_param(value):
    """Tell whether any value is a pair of a name and the sort of a parameter."""
    return is_tuple(value, 2, 2) and is_name(value[0]) and value[1] in ("int", "buffer")


def is_shared_array(value):
    """Tell whether any value is a pair of a name and the size of a shared array."""
    return is_tuple(value, 2, 2) and is_name(value[0]) and is_between(value[1], 1, MOST_SHARED_CELLS)


def is_head(params, shared):
    """Tell whether any two values are the parameters and shared arrays of a kernel."""
    if not is_tuple(params, 0, MOST_PARAMS) or not is_tuple(shared, 0, MOST_SHARED):
        return False
    if not all([is_param(row) for row in params]):
        return False
    if not all([is_shared_array(row) for row in shared]):
        return False
    names = [row[0] for row in params + shared]
    return len(set(names)) == len(names)


def known_at_first(params, shared):
    """Return a dict from the names that a whole kernel knows to their sorts."""
    known = {}
    for name, sort in params:
        known[name] = "int" if sort == "int" else "array"
    for name, _ in shared:
        known[name] = "array"
    return known


def first_word(value):
    """Return the string with which a tuple begins, "" for any other value."""
    # Only a string is surely a key: a list among the values is none.
    if isinstance(value, tuple) and len(value) > 0 and isinstance(value[0], str):
        return value[0]
    return ""


def is_choice(sort, value):
    """Tell whether any value is a special word or an operator of a sort."""
    if sort == "special":
        return value in SPECIALS
    if sort == "unary":
        return value in UNARY
    if sort == "binary":
        return value in BINARY
    return value in FOLDING


def is_part(sort, value, known, depth):
    """Tell whether any value is a part of a sort other than a body.

    An expression stands at the depth, which is 1 for one in no other expression.
    """
    if sort == "expression":
        return is_expression(value, known, depth)
    if sort == "word":
        return is_word(value)
    if sort == "new":
        return is_name(value) and value not in known
    if sort in ("int", "array"):
        return isinstance(value, str) and known.get(value) == sort
    return is_choice(sort, value)


def is_expression(value, known, depth):
    """Tell whether any value is an expression where these names are known."""
    sorts = EXPRESSION_PARTS.get(first_word(value))
    if sorts is None or len(value) != 1 + len(sorts) or depth > DEEPEST_EXPRESSION:
        return False
    for sort, part in zip(sorts, value[1:]):
        if not is_part(sort, part, known, depth + 1):
            return False
    return True


class Walk:
    """A walk through the bodies of one kernel, which counts the statements."""

    def __init__(self):
        self.passed = 0

    def is_body(self, value, known, depth, looped):
        """Tell whether any value is a body; looped says whether a while is around it."""
        if not isinstance(value, tuple) or depth > DEEPEST_BODY:
            return False
        # What the body declares is not known behind it.
        inside = dict(known)
        for statement in value:
            if not self.is_statement(statement, inside, depth, looped):
                return False
            # Only now: the expression of a declaration does not know the new name.
            if statement[0] in ("let", "collect"):
                inside[statement[1]] = "int"
        return True

    def is_statement(self, value, known, depth, looped):
        """Tell whether any value is a statement in a body of that depth."""
        self.passed += 1
        word = first_word(value)
        sorts = STATEMENT_PARTS.get(word)
        if sorts is None or len(value) != 1 + len(sorts) or self.passed > MOST_STATEMENTS:
            return False
        if word in ("break", "continue") and not looped:
            return False
        for sort, part in zip(sorts, value[1:]):
            if sort == "body":
                good = self.is_body(part, known, depth + 1, looped or word == "while")
            else:
                good = is_part(sort, part, known, 1)
            if not good:
                return False
        return True


def is_kernel(value):
    """Tell whether any value is a good kernel."""
    if not is_tuple(value, 3, 3):
        return False
    params, shared, body = value
    if not is_head(params, shared):
        return False
    walk = Walk()
    return walk.is_body(body, known_at_first(params, shared), 1, False)


def check_kernel(value):
    """Raise BadKernel if any value is no good kernel."""
    if not is_kernel(value):
        raise BadKernel("the value is no good kernel")


def is_buffer(value):
    """Tell whether any value is a buffer of a launch."""
    return is_tuple(value, 0, MOST_BUFFER_CELLS) and all([is_word(word) for word in value])


def is_argument(sort, value, many):
    """Tell whether any value is an argument, where there are so many buffers."""
    if sort == "int":
        return is_word(value)
    return is_between(value, 0, many - 1)


def are_arguments(value, params, many):
    """Tell whether any value has an argument for each parameter."""
    if not is_tuple(value, len(params), len(params)):
        return False
    for (_, sort), argument in zip(params, value):
        if not is_argument(sort, argument, many):
            return False
    return True


def is_launch(params, value):
    """Tell whether any value is a launch of what has these parameters."""
    if not is_tuple(value, 4, 4):
        return False
    grid, block, arguments, buffers = value
    if not is_between(grid, 1, MOST_BLOCKS) or not is_between(block, 1, MOST_THREADS):
        return False
    if not is_tuple(buffers, 0, MOST_BUFFERS):
        return False
    if not all([is_buffer(buffer) for buffer in buffers]):
        return False
    return are_arguments(arguments, params, len(buffers))


def check_launch(kernel, value):
    """Raise BadLaunch if any value is no launch of a kernel, a flow graph or code."""
    # Flow graphs and machine code begin with their parameters, as kernels do.
    if not is_launch(kernel[0], value):
        raise BadLaunch("the value is no launch of the kernel")


def bodies(statement):
    """Return the bodies that stand directly in a statement."""
    return statement[2:] if statement[0] in ("if", "while") else ()


def statements_in(body):
    """Return the list of all statements of a body, and of those inside of them."""
    found = []
    for statement in body:
        found.append(statement)
        for inner in bodies(statement):
            found.extend(statements_in(inner))
    return found


def statements(kernel):
    """Return the list of all statements of a kernel by their numbers."""
    return statements_in(kernel[2])
