"""Kernels, parts of kernels and odd values that several tests use."""

LEAST = -2 ** 31
GREATEST = 2 ** 31 - 1

ONE = ("word", 1)

# What can stand in a value that is made of integers, strings, None, True, False,
# lists and tuples, and is of little use nearly everywhere.
ODD = (
    None, True, False, 0, 1, -1, 2, 5, 17, LEAST - 1, GREATEST + 1, 10 ** 80,
    "", "a", "x", "A", "add", "word", "let", "int", "if", "nothing", "a" * 1000,
    (), [], [[]], ((),), (None,), ([],), (1,), ("word",), ("word", 1), ["word", 1],
    ("word", True), ("let",), (("word", 1),), (("barrier",),), [("barrier",)],
    ([], 1, 2), ("let", [], ONE), ("name", []), ("name", ("x",)), (((), ()), ()),
)

# A kernel with each statement and each expression, and with parts of each sort.
EVERYTHING = (
    (("a", "buffer"), ("n", "int"), ("b", "buffer")),
    (("s", 16), ("t1", 1)),
    (
        ("let", "x", ("special", "tid")),
        ("set", "x", ("binary", "add", ("name", "x"), ("special", "bid"))),
        ("set", "n", ("unary", "neg", ("name", "n"))),
        ("put", "s", ("special", "dim"), ("load", "a", ("special", "grid"))),
        ("atomic", "max", "b", ("word", LEAST), ("word", GREATEST)),
        ("collect", "all1", "add", ("pick", ("name", "n"), ("name", "x"), ONE)),
        (
            "if",
            ("load", "t1", ("word", 0)),
            (("let", "y", ("name", "all1")), ("put", "a", ("name", "y"), ("name", "x"))),
            (("let", "y", ("word", -1)), ("return",)),
        ),
        (
            "while",
            ("binary", "lt", ("name", "x"), ("word", 3)),
            (
                ("let", "y", ("word", 0)),
                ("if", ("name", "y"), (("break",),), (("continue",),)),
                ("while", ("word", 0), ()),
            ),
        ),
        ("let", "y", ("word", 7)),
        ("barrier",),
    ),
)


def with_body(*body):
    """Return a kernel that has an int n, a buffer a, a shared array s, and this body."""
    return ((("n", "int"), ("a", "buffer")), (("s", 4),), tuple(body))


def with_expression(expression):
    """Return such a kernel that uses an expression, where a variable x is known."""
    return with_body(("let", "x", ONE), ("set", "x", expression))


def deep_expressions(depth):
    """Return expressions that are so deep, one for each part that can be deep."""
    found = [ONE for _ in range(7)]
    for _ in range(depth - 1):
        found = [
            ("unary", "not", found[0]),
            ("binary", "add", found[1], ONE),
            ("binary", "add", ONE, found[2]),
            ("pick", found[3], ONE, ONE),
            ("pick", ONE, found[4], ONE),
            ("pick", ONE, ONE, found[5]),
            ("load", "a", found[6]),
        ]
    return found


def nested(depth, wrap, innermost=()):
    """Return a body with bodies nested so deep; wrap makes a statement of a body."""
    body = innermost
    for _ in range(depth - 1):
        body = (wrap(body),)
    return body


def in_while(body):
    """Return a while with a body."""
    return ("while", ONE, body)


def in_then(body):
    """Return an if with a first body."""
    return ("if", ONE, body, ())


def in_else(body):
    """Return an if with a second body."""
    return ("if", ONE, (), body)


def places(value):
    """Return the paths, tuples of indices, to all parts of a tuple, itself among them."""
    found = [()]
    if isinstance(value, tuple):
        for at, part in enumerate(value):
            found.extend((at,) + path for path in places(part))
    return found


def part_at(value, path):
    """Return the part of a tuple at a path."""
    for at in path:
        value = value[at]
    return value


def replaced(value, path, part):
    """Return a tuple with another part at a path."""
    if path == ():
        return part
    at = path[0]
    return value[:at] + (replaced(value[at], path[1:], part),) + value[at + 1:]


def as_lists(value):
    """Return a value with lists for all its tuples."""
    if isinstance(value, tuple):
        return [as_lists(part) for part in value]
    return value
