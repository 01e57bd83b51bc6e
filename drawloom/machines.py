"""Machines: blocks that are placed on cores, stepped, and put aside."""

from drawloom.blocks import Block
from drawloom.buffers import Memory
from drawloom.errors import NotReady
from drawloom.races import Races

# How many instructions a lane may do.
MOST_STEPS = 20000
# Where a block is that is on no core.
NO_CORE = -1


class Machine:
    """A launch of code on a machine of a shape, action by action."""

    def __init__(self, code, launch, shape):
        grid, dim, _, _ = launch
        width, free, _, _, room = shape
        self.code = code
        self.launch = launch
        self.shape = shape
        self.common = Memory(code, launch, room)
        self.blocks = [Block(code, launch, self.common, block, width, free) for block in range(grid)]
        self.cores = [NO_CORE for _ in range(grid)]
        # How many instructions each thread has done.
        self.done = [0 for _ in range(grid * dim)]
        self.passed = 0
        self.is_out = False
        self.last = []
        self.history = Races()

    def actions(self):
        """Return the list of the actions."""
        rows = self.possible()
        return rows if self.end_with(rows) == "" else []

    def possible(self):
        """Return the list of the actions, not asking for what ends the machine."""
        placed = [block for block, core in enumerate(self.cores) if core != NO_CORE]
        rows = self.placings()
        for block in placed:
            one = self.blocks[block]
            for warp in range(one.warps()):
                rows.extend([("step", block, warp, group) for group in range(one.groups(warp))])
        rows.extend([("drain", thread) for thread in self.common.pending()])
        rows.extend([("aside", block) for block in placed])
        return rows

    def placings(self):
        """Return the list of the actions that place a block, the least one that is to be placed."""
        _, _, many, slots, _ = self.shape
        free = [core for core in range(many) if self.cores.count(core) < slots]
        for block, core in enumerate(self.cores):
            if core == NO_CORE and self.blocks[block].status() != "ended":
                return [("place", block, other) for other in free]
        return []

    def end_with(self, rows):
        """Return what end() does, given the list of what is possible."""
        if self.is_out:
            return "fuel"
        # A block that has not ended can always be placed, or some block be put aside.
        if len(rows) == 0:
            return "ok"
        return "stuck" if rows[0][0] == "aside" else ""

    def end(self):
        """Return "ok", "stuck", "fuel", or "" as long as the machine has not ended."""
        return self.end_with(self.possible())

    def act(self, index):
        """Do the action with an index."""
        rows = self.actions()
        if not 0 <= index < len(rows):
            raise NotReady("there is no such action")
        self.do(rows[index])

    def do(self, action):
        """Do an action."""
        self.last = []
        if action[0] == "place":
            _, block, core = action
            self.cores[block] = core
        elif action[0] == "step":
            _, block, warp, group = action
            self.do_step(block, warp, group)
        elif action[0] == "drain":
            self.common.drain(action[1])
        else:
            self.cores[action[1]] = NO_CORE
        self.passed += 1

    def do_step(self, number, warp, group):
        """Do a step of a block, unless there is none left for one of the lanes."""
        block = self.blocks[number]
        threads = block.active(warp, group)
        if any([self.done[thread] >= MOST_STEPS for thread in threads]):
            self.is_out = True
            return
        for thread in threads:
            self.done[thread] += 1
        # The step may let the threads pass, behind its accesses.
        phase = block.phase()
        for space, cell, thread, kind in block.step(warp, group):
            access = (space, cell, thread, kind, self.passed)
            self.last.append((access, number, phase))
            self.history.meet(access, number, phase)
        if block.status() == "ended":
            self.cores[number] = NO_CORE

    def memory(self):
        """Return the buffers as a tuple of tuples, without what is in the queues."""
        return self.common.buffers()

    def places(self):
        """Return the tuple of the cores of the blocks, -1 for a block that is on none."""
        return tuple(self.cores)

    def accesses(self):
        """Return the list of the accesses of the last action."""
        return list(self.last)

    def races(self):
        """Return the list of the races told so far."""
        return list(self.history.told)

    def picture(self):
        """Return a picture, from which `restored` makes a machine that behaves as this one."""
        blocks = tuple([block.picture() for block in self.blocks])
        parts = (self.common.picture(), blocks, self.history.picture())
        return parts + (tuple(self.cores), tuple(self.done), self.passed, self.is_out, tuple(self.last))

    def take(self, picture):
        """Become as the machine of a picture; this one is still before its first action."""
        memory, blocks, history, cores, done, passed, is_out, last = picture
        self.common.take(memory)
        for block, part in zip(self.blocks, blocks):
            block.take(part)
        self.history.take(history)
        self.cores = list(cores)
        self.done = list(done)
        self.passed = passed
        self.is_out = is_out
        self.last = list(last)

    def copy(self):
        """Return a machine that behaves as this one, independent of it."""
        return restored(self.code, self.launch, self.shape, self.picture())


def restored(code, launch, shape, picture):
    """Return a machine that behaves as the one of a picture."""
    machine = Machine(code, launch, shape)
    machine.take(picture)
    return machine


def run_machine(code, launch, shape, turns):
    """Return the end, the memory and the races of a run by turns."""
    machine = Machine(code, launch, shape)
    for turn in turns:
        rows = machine.actions()
        if len(rows) == 0:
            break
        machine.do(rows[turn % len(rows)])
    rows = machine.actions()
    while len(rows) > 0:
        machine.do(rows[0])
        rows = machine.actions()
    return (machine.end(), machine.memory(), machine.races())
