"""The memory of a launch, where the stores of each thread may arrive late."""

from drawloom.cells import Cells
from drawloom.words import binary


class Memory:
    """The cells of a launch, and for each thread a queue of stores."""

    def __init__(self, code, launch, room):
        grid, dim, _, _ = launch
        self.code = code
        self.launch = launch
        self.room = room
        self.cells = Cells(code, launch)
        # The stores are tuples of a row, a cell and a word, the oldest one first.
        self.queues = [[] for _ in range(grid * dim)]

    def row_of(self, thread, array):
        """Return the index of the row that the array with a number is for a thread."""
        return self.cells.row_of(thread // self.launch[1], array)

    def load(self, thread, array, cell):
        """Return the word of a cell as a thread sees it, 0 if the cell is not there."""
        row = self.row_of(thread, array)
        if not self.cells.is_there(row, cell):
            return 0
        for other, place, word in reversed(self.queues[thread]):
            if other == row and place == cell:
                return word
        return self.cells.rows[row][cell]

    def store(self, thread, array, cell, word):
        """Store a word in a cell, perhaps late; tell whether the cell is there."""
        row = self.row_of(thread, array)
        if not self.cells.is_there(row, cell):
            return False
        if self.room == 0:
            self.cells.rows[row][cell] = word
            return True
        if len(self.queues[thread]) == self.room:
            self.drain(thread)
        self.queues[thread].append((row, cell, word))
        return True

    def atomic(self, thread, op, array, cell, word):
        """Combine a cell with a word; tell whether the cell is there."""
        row = self.row_of(thread, array)
        if not self.cells.is_there(row, cell):
            return False
        self.fence(thread)
        self.cells.rows[row][cell] = binary(op, self.cells.rows[row][cell], word)
        return True

    def drain(self, thread):
        """Do the oldest store of the queue of a thread; tell whether there was one."""
        if len(self.queues[thread]) == 0:
            return False
        row, cell, word = self.queues[thread].pop(0)
        self.cells.rows[row][cell] = word
        return True

    def fence(self, thread):
        """Drain the queue of a thread until it is empty; return the number of its stores."""
        many = 0
        while self.drain(thread):
            many += 1
        return many

    def pending(self):
        """Return the ascending list of the threads whose queues are not empty."""
        return [thread for thread, queue in enumerate(self.queues) if len(queue) > 0]

    def spot(self, thread, array, cell):
        """Return the pair of the space and the cell, None if the cell is not there."""
        row = self.row_of(thread, array)
        if not self.cells.is_there(row, cell):
            return None
        return (self.cells.spaces[row], cell)

    def buffers(self):
        """Return the buffers as a tuple of tuples, without what is in the queues."""
        return self.cells.contents()

    def picture(self):
        """Return a picture: the cells, and the queues."""
        rows = tuple([tuple(row) for row in self.cells.rows])
        return (rows, tuple([tuple(queue) for queue in self.queues]))

    def take(self, picture):
        """Become as the memory of a picture."""
        rows, queues = picture
        cells = self.cells
        cells.rows = [list(row) for row in rows]
        self.queues = [list(queue) for queue in queues]

    def copy(self):
        """Return a memory that behaves as this one, independent of it."""
        other = Memory(self.code, self.launch, self.room)
        other.take(self.picture())
        return other
