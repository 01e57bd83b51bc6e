"""What a launch of a kernel means: threads that take turns with its statements."""

from drawloom.cells import array_numbers
from drawloom.paths import NOTHING, paths
from drawloom.playing import Play, played, special
from drawloom.words import binary, unary

# How many steps a thread may do.
FUEL = 400


class World:
    """A launch of a kernel, step by step."""

    def __init__(self, kernel, launch):
        self.kernel = kernel
        self.launch = launch
        self.arrays = array_numbers(kernel)
        self.play = Play(kernel, launch, FUEL)
        first, self.rows = paths(kernel)
        threads = self.play.ready_ones()
        self.at = [first for _ in threads]
        self.variables = [self.first_variables() for _ in threads]
        if first == NOTHING:
            for thread in threads:
                self.play.finish(thread)

    def first_variables(self):
        """Return a dict from the names of the parameters that are ints to their words."""
        params, arguments = self.kernel[0], self.launch[2]
        return {name: word for (name, sort), word in zip(params, arguments) if sort == "int"}

    def ready(self):
        """Return the ascending list of the ready threads, empty behind the end."""
        return self.play.ready_ones()

    def step(self, thread):
        """Do a step of a ready thread."""
        if self.play.begins(thread):
            self.do_statement(thread)

    def end(self):
        """Return "ok", "stuck", "fuel", or "" as long as the run has not ended."""
        return self.play.outcome()

    def memory(self):
        """Return the buffers as a tuple of tuples."""
        return self.play.cells.contents()

    def races(self):
        """Return the list of the races told so far."""
        return list(self.play.history.told)

    def steps(self):
        """Return the number of steps done so far."""
        return self.play.passed

    def copy(self):
        """Return a world that behaves as this one, independent of it."""
        other = World(self.kernel, self.launch)
        other.play = self.play.copied()
        other.at = list(self.at)
        other.variables = [dict(row) for row in self.variables]
        return other

    def do_statement(self, thread):
        """Do the statement at which a thread is."""
        statement, follower, otherwise = self.rows[self.at[thread]]
        word = statement[0]
        if word in ("barrier", "collect"):
            self.do_meeting(thread, statement, follower)
            return
        if word in ("let", "set"):
            self.variables[thread][statement[1]] = self.value(thread, statement[2])
        elif word in ("put", "atomic"):
            self.do_change(thread, statement)
        elif word in ("if", "while") and self.value(thread, statement[1]) == 0:
            follower = otherwise
        self.go_on(thread, follower)

    def do_change(self, thread, statement):
        """Do a put or an atomic of a thread."""
        array, index, expression = statement[-3:]
        number = self.arrays[array]
        cell = self.value(thread, index)
        word = self.value(thread, expression)
        if statement[0] == "put":
            self.play.store(thread, number, cell, word)
        else:
            self.play.atomic(thread, statement[1], number, cell, word)

    def do_meeting(self, thread, statement, follower):
        """Let a thread wait at a barrier or a collect, and all pass who can."""
        number = self.at[thread]
        if statement[0] == "barrier":
            passing = self.play.wait(thread, number, "", 0)
        else:
            _, name, op, expression = statement
            passing = self.play.wait(thread, number, op, self.value(thread, expression))
            for other, word in passing:
                self.variables[other][name] = word
        for other, _ in passing:
            self.go_on(other, follower)

    def go_on(self, thread, follower):
        """Let a running thread go on at a statement, or end where nothing is next."""
        self.at[thread] = follower
        if follower == NOTHING:
            self.play.finish(thread)

    def value(self, thread, expression):
        """Return the word of an expression for a thread, and do its loads."""
        word = expression[0]
        if word == "word":
            return expression[1]
        if word == "name":
            return self.variables[thread][expression[1]]
        if word == "special":
            return special(self.launch, thread, expression[1])
        if word == "load":
            cell = self.value(thread, expression[2])
            return self.play.load(thread, self.arrays[expression[1]], cell)
        if word == "unary":
            return unary(expression[1], self.value(thread, expression[2]))
        if word == "binary":
            first = self.value(thread, expression[2])
            return binary(expression[1], first, self.value(thread, expression[3]))
        # A pick does the loads of all its parts, also of the one that it leaves.
        condition, first, second = [self.value(thread, part) for part in expression[1:]]
        return first if condition != 0 else second


def run(kernel, launch, turns):
    """Return the end, the memory, the races and the number of steps of a run by turns."""
    return played(World(kernel, launch), turns)


def is_free(kernel, launch):
    """Tell whether the run without turns ends with "ok" and tells no race."""
    end, _, races, _ = run(kernel, launch, [])
    return end == "ok" and len(races) == 0
