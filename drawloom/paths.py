"""The ways through a kernel: which statements can be next behind each one."""

from drawloom.kernels import statements_in

# What is next where nothing is: the thread ends.
NOTHING = -1


def many_in(body):
    """Return how many statements a body has, with those inside of them."""
    return len(statements_in(body))


class Ways:
    """The rows of the statements of a kernel, in the order of their numbers."""

    def __init__(self):
        self.rows = []

    def lay_body(self, body, at, behind, head, past):
        """Add the rows of a body that begins with the number at; behind is next behind it.

        The innermost while around it has the number head, and past is next behind that.
        """
        number = at
        for index, statement in enumerate(body):
            following = number + many_in((statement,))
            is_last = index == len(body) - 1
            self.lay(statement, number, behind if is_last else following, head, past)
            number = following

    def lay(self, statement, number, follower, head, past):
        """Add the rows of a statement and of those in it."""
        word = statement[0]
        if word == "if":
            middle = number + 1 + many_in(statement[2])
            first = number + 1 if len(statement[2]) > 0 else follower
            second = middle if len(statement[3]) > 0 else follower
            self.rows.append((statement, first, second))
            self.lay_body(statement[2], number + 1, follower, head, past)
            self.lay_body(statement[3], middle, follower, head, past)
        elif word == "while":
            first = number + 1 if len(statement[2]) > 0 else number
            self.rows.append((statement, first, follower))
            self.lay_body(statement[2], number + 1, number, number, follower)
        else:
            jumps = {"break": past, "continue": head, "return": NOTHING}
            behind = jumps.get(word, follower)
            self.rows.append((statement, behind, behind))


def paths(kernel):
    """Return the number of the first statement of a kernel, and a tuple of rows.

    The row of each statement is a tuple of itself, the number of the next one, and
    that of the next one if its condition is 0.
    """
    ways = Ways()
    ways.lay_body(kernel[2], 0, NOTHING, NOTHING, NOTHING)
    first = 0 if len(kernel[2]) > 0 else NOTHING
    return (first, tuple(ways.rows))
