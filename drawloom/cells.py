"""The cells of a launch: its buffers, and the shared arrays of its blocks."""

# Shared arrays have this number and the following ones, parameters those below it.
FIRST_SHARED = 6


class Cells:
    """The cells of a launch of a kernel, a flow graph or code, in rows."""

    def __init__(self, program, launch):
        grid, _, arguments, buffers = launch
        shared = program[1]
        self.program = program
        self.launch = launch
        self.params = arguments
        self.many_buffers = len(buffers)
        self.many_shared = len(shared)
        self.rows = [list(buffer) for buffer in buffers]
        spaces = [("buffer", index) for index in range(len(buffers))]
        for block in range(grid):
            for index, (_, size) in enumerate(shared):
                self.rows.append([0] * size)
                spaces.append(("shared", block, index))
        self.spaces = tuple(spaces)

    def row_of(self, block, array):
        """Return the index of the row that the array with a number is for a block."""
        if array < FIRST_SHARED:
            return self.params[array]
        return self.many_buffers + block * self.many_shared + array - FIRST_SHARED

    def is_there(self, row, cell):
        """Tell whether a row has a cell."""
        return 0 <= cell < len(self.rows[row])

    def contents(self):
        """Return the buffers as a tuple of tuples."""
        return tuple([tuple(row) for row in self.rows[:self.many_buffers]])

    def copied(self):
        """Return cells that are as these, independent of them."""
        other = Cells(self.program, self.launch)
        other.rows = [list(row) for row in self.rows]
        return other


def array_numbers(program):
    """Return a dict from the names of all arrays to their numbers."""
    params, shared = program[0], program[1]
    numbers = {}
    for index, (name, sort) in enumerate(params):
        if sort == "buffer":
            numbers[name] = index
    for index, (name, _) in enumerate(shared):
        numbers[name] = FIRST_SHARED + index
    return numbers
