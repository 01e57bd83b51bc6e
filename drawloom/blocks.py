"""Blocks: the warps that share a memory and meet at barriers."""

from drawloom.effects import answered, met
from drawloom.errors import NotReady
from drawloom.playing import collected
from drawloom.warps import FreeWarp, Warp


def made_warp(code, launch, block, first, count, free):
    """Return a warp, free or with masks."""
    if free:
        return FreeWarp(code, launch, block, first, count)
    return Warp(code, launch, block, first, count)


class Block:
    """A block of a launch, whose threads are the lanes of warps of a width."""

    def __init__(self, code, launch, memory, block, width, free):
        dim = launch[1]
        self.code = code
        self.launch = launch
        self.common = memory
        self.number = block
        self.width = width
        self.free = free
        self.passed = 0
        self.rows = []
        for first in range(0, dim, width):
            self.rows.append(made_warp(code, launch, block, first, min(width, dim - first), free))

    def warps(self):
        """Return the number of warps."""
        return len(self.rows)

    def warp_at(self, number):
        """Return the warp with a number."""
        if not 0 <= number < len(self.rows):
            raise NotReady("the block has no such warp")
        return self.rows[number]

    def groups(self, warp):
        """Return the number of groups of a warp."""
        return self.warp_at(warp).groups()

    def thread_of(self, tid):
        """Return the number of a thread by its tid."""
        return self.number * self.launch[1] + tid

    def active(self, warp, group):
        """Return the list of the numbers of the threads of a group."""
        return [self.thread_of(tid) for tid in self.warp_at(warp).active(group)]

    def step(self, warp, group):
        """Do the instruction of a group of a warp; return the list of its accesses."""
        stepping = self.warp_at(warp)
        asks = stepping.asks(group)
        accesses = []
        words = []
        for tid, asked in asks:
            accesses.extend(self.accesses_of(tid, asked))
            words.append(answered(self.common, self.thread_of(tid), asked))
        stepping.step(group, words)
        # All lanes of a group do the same instruction.
        if asks[0][1][0] in ("barrier", "collect", "exit"):
            for tid, _ in asks:
                self.common.fence(self.thread_of(tid))
            self.let_pass()
        return accesses

    def accesses_of(self, tid, asked):
        """Return the list of the access that a request is, empty if it is none."""
        if asked[0] not in ("load", "store", "atomic"):
            return []
        kind, array, cell = asked[1:4] if asked[0] == "atomic" else asked[:3]
        thread = self.thread_of(tid)
        spot = self.common.spot(thread, array, cell)
        return [] if spot is None else [spot + (thread, kind)]

    def let_pass(self):
        """Release all warps if all threads wait at the same number."""
        rows = []
        for warp in self.rows:
            rows.append([met(asked) for _, asked in warp.waits()])
        waiting = [row for parts in rows for row in parts]
        if len(waiting) < self.launch[1]:
            return
        if not all([number == waiting[0][0] for number, _, _ in waiting]):
            return
        words = collected(waiting)
        for warp, parts in zip(self.rows, rows):
            warp.release([words[op] for _, op, _ in parts])
        self.passed += 1

    def phase(self):
        """Return how many barriers and collects were passed."""
        return self.passed

    def status(self):
        """Return "running", "ended" or "stuck"."""
        if any([warp.groups() > 0 for warp in self.rows]):
            return "running"
        ended = sum([len(warp.ended()) for warp in self.rows])
        return "ended" if ended == self.launch[1] else "stuck"

    def lanes(self):
        """Return the list of the states of all threads."""
        return [state for warp in self.rows for state in warp.lanes()]

    def picture(self):
        """Return a picture: what was passed, and the warps."""
        return (self.passed, tuple([warp.picture() for warp in self.rows]))

    def take(self, picture):
        """Become as the block of a picture."""
        self.passed, pictures = picture
        for warp, part in zip(self.rows, pictures):
            warp.take(part)

    def copy(self, memory):
        """Return a block that behaves as this one, on another memory."""
        other = Block(self.code, self.launch, memory, self.number, self.width, self.free)
        other.take(self.picture())
        return other
