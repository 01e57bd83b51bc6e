"""The machine written a second time, slowly and straight after the document."""

from drawloom.words import binary, fold, unary


class Lane:
    def __init__(self, number, dim, local):
        self.number, self.tid, self.block = number, number % dim, number // dim
        self.at, self.registers, self.cells = 0, [0] * 8, [0] * local
        self.mood, self.done = "running", 0

    def state(self):
        return (self.at, tuple(self.registers), tuple(self.cells))


class SlowMachine:
    def __init__(self, code, launch, shape):
        self.params, self.shared, local, self.rows = code
        self.grid, self.dim, self.arguments, buffers = launch
        self.width, self.free, self.cores, self.slots, self.room = shape
        self.words = {}
        for index, row in enumerate(buffers):
            for cell, word in enumerate(row):
                self.words[("buffer", index), cell] = word
        for block in range(self.grid):
            for index, (_, size) in enumerate(self.shared):
                for cell in range(size):
                    self.words[("shared", block, index), cell] = 0
        self.sizes = [len(row) for row in buffers]
        self.lanes = [Lane(number, self.dim, local) for number in range(self.grid * self.dim)]
        self.queues = [[] for _ in self.lanes]
        self.phases = [0] * self.grid
        self.core = [-1] * self.grid
        self.number, self.out, self.last, self.all, self.told = 0, False, [], [], []
        # Of each block the warps, of each warp the entries of its stack.
        self.warps = [
            [self.lanes_of(block)[first:first + self.width] for first in range(0, self.dim, self.width)]
            for block in range(self.grid)
        ]
        self.stacks = [[[[0, -1, list(warp)]] for warp in warps] for warps in self.warps]

    def lanes_of(self, block):
        return self.lanes[block * self.dim:(block + 1) * self.dim]

    def is_ended(self, block):
        return all(lane.mood == "ended" for lane in self.lanes_of(block))

    def groups(self, block, warp):
        """Return the list of the groups of a warp, each a list of lanes."""
        if not self.free:
            return [self.stacks[block][warp][-1][2]] if self.stacks[block][warp] else []
        running = [lane for lane in self.warps[block][warp] if lane.mood == "running"]
        return [[lane for lane in running if lane.at == at] for at in sorted({lane.at for lane in running})]

    def possible(self):
        found = []
        for block in range(self.grid):
            if self.core[block] == -1 and not self.is_ended(block):
                found += [("place", block, core) for core in range(self.cores) if self.core.count(core) < self.slots]
                break
        on = [block for block in range(self.grid) if self.core[block] >= 0]
        for block in on:
            for warp in range(len(self.warps[block])):
                found += [("step", block, warp, group) for group in range(len(self.groups(block, warp)))]
        found += [("drain", number) for number, queue in enumerate(self.queues) if queue]
        return found + [("aside", block) for block in on]

    def end(self):
        if self.out:
            return "fuel"
        if all(self.is_ended(block) for block in range(self.grid)):
            return "ok"
        return "" if any(row[0] != "aside" for row in self.possible()) else "stuck"

    def actions(self):
        return self.possible() if self.end() == "" else []

    def act(self, index):
        kind, *parts = self.actions()[index]
        self.last = []
        if kind == "place":
            self.core[parts[0]] = parts[1]
        elif kind == "step":
            self.step(*parts)
        elif kind == "drain":
            self.drain(parts[0])
        else:
            self.core[parts[0]] = -1
        self.number += 1

    def drain(self, number):
        spot, word = self.queues[number].pop(0)
        self.words[spot] = word

    def fence(self, number):
        while self.queues[number]:
            self.drain(number)

    def step(self, block, warp, group):
        active = list(self.groups(block, warp)[group])
        if any(lane.done == 20000 for lane in active):
            self.out = True
            return
        at = active[0].at
        row = self.rows[at]
        for lane in active:
            lane.done += 1
            self.answer(lane, row)
        for lane in active:
            if row[0] in ("barrier", "collect", "exit"):
                self.fence(lane.number)
        if not self.free:
            self.settle(self.stacks[block][warp], active, at)
        waiting = [lane for lane in self.lanes_of(block) if lane.mood == "waiting"]
        if len(waiting) == self.dim and len({self.rows[lane.at][-1] for lane in waiting}) == 1:
            self.let_pass(block, waiting)
        if self.is_ended(block):
            self.core[block] = -1

    def settle(self, stack, active, at):
        """Bring the stack of a warp up to date behind a step of its active lanes."""
        top = stack[-1]
        ways = {lane.at for lane in active if lane.mood == "running"}
        for entry in stack:
            entry[2] = [lane for lane in entry[2] if lane.mood == "running"]
        if len(ways) == 2:
            join = self.rows[at][3]
            lanes, top[0] = top[2], join
            for way in (at + 1, self.rows[at][2]):
                stack.append([way, join, [lane for lane in lanes if lane.at == way]])
        elif ways:
            top[0] = min(ways)
        stack[:] = [row for row in stack if row[2] and not (row[1] != -1 and row[0] == row[1])]

    def let_pass(self, block, waiting):
        told = [(self.rows[lane.at], lane.registers[:]) for lane in waiting]
        for lane in waiting:
            row = self.rows[lane.at]
            if row[0] == "collect":
                words = [words[other[3]] for other, words in told if other[:2] == row[:2]]
                lane.registers[row[2]] = fold(row[1], words)
            lane.at += 1
            lane.mood = "running"
        for warp, stack in zip(self.warps[block], self.stacks[block]):
            for at in sorted({lane.at for lane in warp}, reverse=True):
                stack.append([at, -1, [lane for lane in warp if lane.at == at]])
        self.phases[block] += 1

    def answer(self, lane, row):
        """Do the instruction of a lane, as far as no other ones have a part in it."""
        kind, words = row[0], lane.registers
        if kind in ("barrier", "collect", "exit"):
            lane.mood = "ended" if kind == "exit" else "waiting"
            return
        lane.at += 1
        if kind == "jump":
            lane.at = row[1]
        elif kind == "branch" and words[row[1]]:
            lane.at = row[2]
        elif kind == "word":
            words[row[1]] = row[2]
        elif kind == "param":
            words[row[1]] = self.arguments[row[2]]
        elif kind == "special":
            words[row[1]] = {"tid": lane.tid, "bid": lane.block, "dim": self.dim, "grid": self.grid}[row[2]]
        elif kind == "copy":
            words[row[1]] = words[row[2]]
        elif kind == "unary":
            words[row[2]] = unary(row[1], words[row[3]])
        elif kind == "binary":
            words[row[2]] = binary(row[1], words[row[3]], words[row[4]])
        elif kind == "get":
            words[row[1]] = lane.cells[row[2]]
        elif kind == "keep":
            lane.cells[row[1]] = words[row[2]]
        elif kind == "load":
            words[row[1]] = self.load(lane, self.spot(lane, row[2], words[row[3]]))
        elif kind == "store":
            self.store(lane, self.spot(lane, row[1], words[row[2]]), words[row[3]])
        elif kind == "atomic":
            self.atomic(lane, row[1], self.spot(lane, row[2], words[row[3]]), words[row[4]])

    def spot(self, lane, array, cell):
        space = ("buffer", self.arguments[array]) if array < 6 else ("shared", lane.block, array - 6)
        return (space, cell)

    def load(self, lane, spot):
        if spot not in self.words:
            return 0
        self.access(lane, spot, "load")
        return dict([(spot, self.words[spot])] + self.queues[lane.number])[spot]

    def store(self, lane, spot, word):
        if spot not in self.words:
            return
        self.access(lane, spot, "store")
        queue = self.queues[lane.number]
        if len(queue) == self.room and queue:
            self.drain(lane.number)
        queue.append((spot, word))
        if self.room == 0:
            self.drain(lane.number)

    def atomic(self, lane, op, spot, word):
        if spot in self.words:
            self.access(lane, spot, op)
            self.fence(lane.number)
            self.words[spot] = binary(op, self.words[spot], word)

    def access(self, lane, spot, kind):
        access = (*spot, lane.number, kind, self.number)
        row = (access, lane.block, self.phases[lane.block])
        if not any(one[:2] == spot for one, _ in self.told):
            earliest = [other for other in self.all if self.is_race(other, row)]
            if earliest:
                self.told.append((earliest[0][0], access))
        self.all.append(row)
        self.last.append(row)

    def is_race(self, one, other):
        first, second = one[0], other[0]
        if first[:2] != second[:2] or first[2] == second[2]:
            return False
        if first[3] == second[3] != "store":
            return False
        return one[1] != other[1] or one[2] == other[2]

    def memory(self):
        return tuple(
            tuple(self.words[("buffer", index), cell] for cell in range(size)) for index, size in enumerate(self.sizes)
        )
