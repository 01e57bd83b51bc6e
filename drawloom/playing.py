"""What the runs of kernels, flow graphs and code have in common: threads that take turns."""

from drawloom.cells import Cells
from drawloom.errors import NotReady
from drawloom.races import Races
from drawloom.words import binary, fold


def special(launch, thread, word):
    """Return what a special word is for the thread with a number."""
    grid, dim, _, _ = launch
    if word == "tid":
        return thread % dim
    if word == "bid":
        return thread // dim
    return dim if word == "dim" else grid


def collected(rows):
    """Return a dict from each operator to the fold of the words that came with it.

    The rows are tuples of a number, an operator and a word; the operator of a
    barrier is "", and its word is none.
    """
    words = {}
    for _, op, word in rows:
        words.setdefault(op, []).append(word)
    return {op: 0 if op == "" else fold(op, words[op]) for op in words}


class Play:
    """The threads of a launch, what they wait for, their memory and their races.

    What a step does is up to the owner, who says where each thread goes on.
    """

    def __init__(self, program, launch, most):
        grid, dim, _, _ = launch
        many = grid * dim
        self.program = program
        self.launch = launch
        self.most = most
        self.dim = dim
        self.cells = Cells(program, launch)
        self.history = Races()
        self.running = list(range(many))
        self.waiting = [None] * many
        self.finished = 0
        # The threads of a block pass together, so a phase for each block will do.
        self.phases = [0] * grid
        self.done = [0] * many
        self.passed = 0
        self.is_out = False

    def ready_ones(self):
        """Return the ascending list of the ready threads."""
        return [] if self.is_out else list(self.running)

    def outcome(self):
        """Return the end of the run, "" as long as it has not ended."""
        if self.is_out:
            return "fuel"
        if len(self.running) > 0:
            return ""
        return "ok" if self.finished == len(self.done) else "stuck"

    def begins(self, thread):
        """Begin a step of a ready thread; tell whether there was a step left for it."""
        if self.is_out or thread not in self.running:
            raise NotReady("the thread is not ready")
        if self.done[thread] >= self.most:
            self.is_out = True
            return False
        self.done[thread] += 1
        self.passed += 1
        return True

    def access(self, thread, kind, row, cell):
        """Tell the races of an access to a cell that is there."""
        block = thread // self.dim
        # The step that does the access has been counted already.
        told = (self.cells.spaces[row], cell, thread, kind, self.passed - 1)
        self.history.meet(told, block, self.phases[block])

    def load(self, thread, array, cell):
        """Return the word of a cell for a thread, 0 if the cell is not there."""
        row = self.cells.row_of(thread // self.dim, array)
        if not self.cells.is_there(row, cell):
            return 0
        self.access(thread, "load", row, cell)
        return self.cells.rows[row][cell]

    def store(self, thread, array, cell, word):
        """Put a word into a cell if it is there."""
        row = self.cells.row_of(thread // self.dim, array)
        if self.cells.is_there(row, cell):
            self.access(thread, "store", row, cell)
            self.cells.rows[row][cell] = word

    def atomic(self, thread, op, array, cell, word):
        """Combine a cell with a word if it is there."""
        row = self.cells.row_of(thread // self.dim, array)
        if self.cells.is_there(row, cell):
            self.access(thread, op, row, cell)
            self.cells.rows[row][cell] = binary(op, self.cells.rows[row][cell], word)

    def finish(self, thread):
        """Let a running thread end."""
        self.running.remove(thread)
        self.finished += 1

    def wait(self, thread, number, op, word):
        """Let a running thread wait at what has a number; return who goes on by this.

        That is a list of pairs of a thread and the word that it gets.
        """
        self.running.remove(thread)
        self.waiting[thread] = (number, op, word)
        first = thread - thread % self.dim
        rows = self.waiting[first:first + self.dim]
        if not all([row is not None and row[0] == number for row in rows]):
            return []
        return self.let_pass(first, rows)

    def let_pass(self, first, rows):
        """Let all threads of a block go on, the first of which is given."""
        self.phases[first // self.dim] += 1
        words = collected(rows)
        found = []
        for index, (_, op, _) in enumerate(rows):
            self.waiting[first + index] = None
            found.append((first + index, words[op]))
        self.running = sorted(self.running + [thread for thread, _ in found])
        return found

    def copied(self):
        """Return a play that goes on as this one, independent of it."""
        other = Play(self.program, self.launch, self.most)
        other.cells = self.cells.copied()
        other.history = self.history.copied()
        other.running = list(self.running)
        other.waiting = list(self.waiting)
        other.finished = self.finished
        other.phases = list(self.phases)
        other.done = list(self.done)
        other.passed = self.passed
        other.is_out = self.is_out
        return other


def played(world, turns):
    """Do the steps of a world by turns until its end, and return what a run tells."""
    play = world.play
    for turn in turns:
        ready = play.ready_ones()
        if len(ready) == 0:
            break
        world.step(ready[turn % len(ready)])
    while play.outcome() == "":
        world.step(play.running[0])
    return (play.outcome(), play.cells.contents(), list(play.history.told), play.passed)
