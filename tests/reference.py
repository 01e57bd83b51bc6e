"""Runs of kernels, flow graphs and code written a second time, slowly and straight after the document."""

import itertools

from drawloom.words import binary, fold, unary


class Break(Exception):
    pass


class Continue(Exception):
    pass


class Return(Exception):
    pass


class Slow:
    """The threads of a launch as generators.

    A generator yields ("step",) in front of each step, and (number, op, word) where its
    thread waits; it is sent the word that the thread gets when it passes.
    """

    def __init__(self, program, launch, most):
        self.program, self.launch, self.most = program, launch, most
        self.grid, self.dim, self.arguments, buffers = launch
        self.rows = {("buffer", index): list(row) for index, row in enumerate(buffers)}
        for block in range(self.grid):
            for index, (_, many) in enumerate(program[1]):
                self.rows["shared", block, index] = [0] * many
        many = self.grid * self.dim
        self.phases, self.done, self.state = [0] * many, [0] * many, [None] * many
        self.accesses, self.told, self.passed, self.out = [], [], 0, False
        self.threads = [self.thread(number) for number in range(many)]
        for number in range(many):
            self.advance(number, None)

    def advance(self, number, word):
        try:
            self.state[number] = self.threads[number].send(word)
        except StopIteration:
            self.state[number] = "ended"

    def ready(self):
        return [] if self.out else [k for k, state in enumerate(self.state) if state == ("step",)]

    def end(self):
        if self.out:
            return "fuel"
        if self.ready():
            return ""
        return "ok" if set(self.state) == {"ended"} else "stuck"

    def step(self, number):
        if self.done[number] == self.most:
            self.out = True
            return
        self.advance(number, None)
        block = [k for k in range(len(self.state)) if k // self.dim == number // self.dim]
        rows = [self.state[k] for k in block]
        if all(len(row) == 3 and row[0] == rows[0][0] for row in rows):
            for k, (_, op, _) in zip(block, rows):
                self.phases[k] += 1
                self.advance(k, op and fold(op, [row[2] for row in rows if row[1] == op]))
        self.done[number] += 1
        self.passed += 1

    def special(self, number, word):
        return {
            "tid": number % self.dim, "bid": number // self.dim, "dim": self.dim, "grid": self.grid,
        }[word]

    def space(self, number, sort, index):
        return ("buffer", self.arguments[index]) if sort == "buffer" else ("shared", number // self.dim, index)

    def access(self, number, space, cell, kind, word=None):
        """Do an access, and return the word of the cell before it."""
        row = self.rows[space]
        if cell < 0 or cell >= len(row):
            return 0
        access = (space, cell, number, kind, self.passed)
        mine = (access, self.phases[number])
        if not any(old[:2] == (space, cell) for old, _ in self.told):
            for other in self.accesses:
                if self.is_race(other, mine):
                    self.told.append((other[0], access))
                    break
        self.accesses.append(mine)
        before = row[cell]
        if kind == "store":
            row[cell] = word
        elif kind != "load":
            row[cell] = binary(kind, before, word)
        return before

    def is_race(self, one, other):
        first, second = one[0], other[0]
        if first[:2] != second[:2] or first[2] == second[2]:
            return False
        kinds = {first[3], second[3]}
        if len(kinds) == 1 and kinds != {"store"}:
            return False
        return not (first[2] // self.dim == second[2] // self.dim and one[1] != other[1])

    def run(self, turns):
        turns = list(turns)
        while self.end() == "":
            ready = self.ready()
            turn = turns.pop(0) if turns else 0
            self.step(ready[turn % len(ready)])
        buffers = tuple(tuple(self.rows["buffer", k]) for k in range(len(self.launch[3])))
        return (self.end(), buffers, self.told, self.passed)


def labelled(body, count):
    """Return a body with a number of its own behind each barrier and collect."""
    found = []
    for row in body:
        if row[0] in ("barrier", "collect"):
            row = row + (next(count),)
        elif row[0] in ("if", "while"):
            row = row[:2] + tuple(labelled(part, count) for part in row[2:])
        found.append(row)
    return tuple(found)


class SlowKernel(Slow):
    def __init__(self, kernel, launch):
        self.names = {}
        for index, (name, sort) in enumerate(kernel[0]):
            self.names[name] = ("buffer", index)
        for index, (name, _) in enumerate(kernel[1]):
            self.names[name] = ("shared", index)
        body = labelled(kernel[2], itertools.count())
        super().__init__((kernel[0], kernel[1], body), launch, 400)

    def thread(self, number):
        known = [{
            name: word for (name, sort), word in zip(self.program[0], self.arguments) if sort == "int"
        }]
        try:
            yield from self.body(number, known, self.program[2])
        except Return:
            pass

    def body(self, number, known, rows):
        """Do a body; what it declares is in a dict of its own."""
        known = known + [{}]
        for row in rows:
            yield from getattr(self, "do_" + row[0])(number, known, row)

    def word(self, number, known, expression):
        kind, *parts = expression
        if kind == "word":
            return parts[0]
        if kind == "name":
            return [names[parts[0]] for names in known if parts[0] in names][-1]
        if kind == "special":
            return self.special(number, parts[0])
        words = [self.word(number, known, part) for part in parts if isinstance(part, tuple)]
        if kind == "unary":
            return unary(parts[0], *words)
        if kind == "binary":
            return binary(parts[0], *words)
        if kind == "pick":
            return words[1] if words[0] else words[2]
        return self.access(number, self.space(number, *self.names[parts[0]]), words[0], "load")

    def assign(self, known, name, word):
        [names for names in known if name in names][-1][name] = word

    def do_let(self, number, known, row):
        yield ("step",)
        known[-1][row[1]] = self.word(number, known, row[2])

    def do_set(self, number, known, row):
        yield ("step",)
        self.assign(known, row[1], self.word(number, known, row[2]))

    def do_put(self, number, known, row, kind="store"):
        yield ("step",)
        cell = self.word(number, known, row[-2])
        word = self.word(number, known, row[-1])
        self.access(number, self.space(number, *self.names[row[-3]]), cell, kind, word)

    def do_atomic(self, number, known, row):
        return self.do_put(number, known, row, row[1])

    def do_if(self, number, known, row):
        yield ("step",)
        yield from self.body(number, known, row[2] if self.word(number, known, row[1]) else row[3])

    def do_while(self, number, known, row):
        while True:
            yield ("step",)
            if self.word(number, known, row[1]) == 0:
                return
            try:
                yield from self.body(number, known, row[2])
            except Break:
                return
            except Continue:
                pass

    def do_break(self, number, known, row):
        yield ("step",)
        raise Break

    def do_continue(self, number, known, row):
        yield ("step",)
        raise Continue

    def do_return(self, number, known, row):
        yield ("step",)
        raise Return

    def do_barrier(self, number, known, row):
        yield ("step",)
        yield (row[-1], "", 0)

    def do_collect(self, number, known, row):
        yield ("step",)
        known[-1][row[1]] = yield (row[-1], row[2], self.word(number, known, row[3]))


class SlowGraph(Slow):
    def __init__(self, graph, launch, most):
        # The barriers and collects that each thread has passed.
        self.met = {}
        super().__init__(graph, launch, most)

    def thread(self, number):
        _, _, many, nodes = self.program
        words, origin, node = [0] * many, None, 0
        met = self.met.setdefault(number, [])
        while True:
            instructions, end = nodes[node]
            phis = [row for row in instructions if row[0] == "phi"]
            taken = [words[dict(row[2])[origin]] for row in phis]
            for row, word in zip(phis, taken):
                words[row[1]] = word
            for row in instructions[len(phis):]:
                yield ("step",)
                if row[0] in ("barrier", "collect"):
                    yield from self.meet(words, row)
                    met.append((row[0], row[-1], row[1] if row[0] == "collect" else ""))
                else:
                    self.do(number, words, row)
            yield ("step",)
            if end[0] == "exit":
                return
            origin = node
            node = end[1] if end[0] == "jump" else end[2] if words[end[1]] else end[3]

    def meet(self, words, row):
        if row[0] == "barrier":
            yield (row[1], "", 0)
        else:
            words[row[2]] = yield (row[4], row[1], words[row[3]])

    def do(self, number, words, row):
        kind, *parts = row
        if kind == "word":
            words[parts[0]] = parts[1]
        elif kind == "param":
            words[parts[0]] = self.arguments[parts[1]]
        elif kind == "special":
            words[parts[0]] = self.special(number, parts[1])
        elif kind == "copy":
            words[parts[0]] = words[parts[1]]
        elif kind == "unary":
            words[parts[1]] = unary(parts[0], words[parts[2]])
        elif kind == "binary":
            words[parts[1]] = binary(parts[0], words[parts[2]], words[parts[3]])
        elif kind == "load":
            words[parts[0]] = self.access(number, self.array(number, parts[1]), words[parts[2]], "load")
        elif kind == "store":
            self.access(number, self.array(number, parts[0]), words[parts[1]], "store", words[parts[2]])
        else:
            self.access(number, self.array(number, parts[1]), words[parts[2]], parts[0], words[parts[3]])

    def array(self, number, index):
        return self.space(number, "buffer", index) if index < 6 else self.space(number, "shared", index - 6)


class SlowCode(SlowGraph):
    def thread(self, number):
        _, _, local, rows = self.program
        words, cells, at = [0] * 8, [0] * local, 0
        while True:
            row = rows[at]
            yield ("step",)
            at += 1
            if row[0] == "exit":
                return
            if row[0] == "jump":
                at = row[1]
            elif row[0] == "branch":
                at = row[2] if words[row[1]] else at
            elif row[0] == "get":
                words[row[1]] = cells[row[2]]
            elif row[0] == "keep":
                cells[row[1]] = words[row[2]]
            elif row[0] in ("barrier", "collect"):
                yield from self.meet(words, row)
            else:
                self.do(number, words, row)


def slow_run(kernel, launch, turns):
    """Return what a run of a kernel returns."""
    return SlowKernel(kernel, launch).run(turns)


def slow_run_graph(graph, launch, turns, most):
    """Return what a run of a flow graph returns."""
    return SlowGraph(graph, launch, most).run(turns)


def slow_run_code(code, launch, turns, most):
    """Return what a run of code returns."""
    return SlowCode(code, launch, most).run(turns)


def most_steps(program, launch, most=400):
    """Return the number of steps of the thread that does most in the run without turns."""
    slow = SlowKernel(program, launch) if len(program) == 3 else SlowGraph(program, launch, most)
    slow.run([])
    return max(slow.done)
