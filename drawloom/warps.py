"""Warps: neighboring threads of a block as lanes that step together."""

from drawloom.errors import NotReady
from drawloom.lane_rows import ENDED, RUNNING, WAITING, LaneRow

# The join of an entry that lasts as long as its lanes run.
NO_JOIN = -1


def check_group(group, many):
    """Raise NotReady if there is no group with this number."""
    if not 0 <= group < many:
        raise NotReady("the warp has no such group")


def stays(entry):
    """Tell whether an entry stays on the stack."""
    at, join, lanes = entry
    return len(lanes) > 0 and (join == NO_JOIN or at != join)


def without(entry, stopped):
    """Return an entry without the lanes that do not run any more."""
    at, join, lanes = entry
    return (at, join, tuple([tid for tid in lanes if tid not in stopped]))


class Warp:
    """A warp with masks: lanes that part meet again at the join of their branch."""

    def __init__(self, code, launch, block, first, count):
        self.row = LaneRow(code, launch, block, first, count)
        self.stack = [(0, NO_JOIN, tuple(self.row.tids(RUNNING)))]

    def groups(self):
        """Return the number of groups: 1 as long as a lane runs."""
        return min(len(self.stack), 1)

    def active(self, group):
        """Return the tuple of the lanes of a group."""
        check_group(group, self.groups())
        return self.stack[-1][2]

    def asks(self, group):
        """Return the list of the pairs of the tid and the request of the lanes of a group."""
        return self.row.requests(self.active(group))

    def step(self, group, words):
        """Do the instruction of a group, with a word for each of its lanes."""
        lanes = self.active(group)
        if self.row.step(lanes, words):
            at, join, _ = self.stack.pop()
            self.stack.extend(self.entries_behind(at, join, lanes))
        else:
            self.stack = [without(entry, lanes) for entry in self.stack]
        self.stack = [entry for entry in self.stack if stays(entry)]

    def entries_behind(self, at, join, lanes):
        """Return the list of the entries for lanes that were at an index, the top last."""
        gathered = self.row.gathered(lanes)
        if len(gathered) == 1:
            return [(gathered[0][0], join, lanes)]
        _, _, target, meeting = self.row.code[3][at]
        ways = dict(gathered)
        return [(meeting, join, lanes), (at + 1, meeting, ways[at + 1]), (target, meeting, ways[target])]

    def waits(self):
        """Return the list of the pairs of the tid and the request of the waiting lanes."""
        return self.row.requests(self.row.tids(WAITING))

    def ended(self):
        """Return the ascending list of the tids of the lanes that have ended."""
        return self.row.tids(ENDED)

    def lanes(self):
        """Return the list of the states of all lanes."""
        return list(self.row.states)

    def release(self, words):
        """Let all waiting lanes run on, with a word for each of them."""
        self.row.release(words)
        gathered = self.row.gathered(self.row.tids(RUNNING))
        self.stack = [(at, NO_JOIN, lanes) for at, lanes in reversed(gathered)]

    def entries(self):
        """Return the list of the entries, the top last."""
        return list(self.stack)

    def picture(self):
        """Return a picture: the lanes, and the entries."""
        return (self.row.picture(), tuple(self.stack))

    def take(self, picture):
        """Become as the warp of a picture."""
        lanes, entries = picture
        self.row.take(lanes)
        self.stack = list(entries)

    def copy(self):
        """Return a warp that behaves as this one, independent of it."""
        row = self.row
        other = Warp(row.code, row.launch, row.block, row.first, len(row.states))
        other.take(self.picture())
        return other


class FreeWarp:
    """A free warp: all running lanes at one index are a group."""

    def __init__(self, code, launch, block, first, count):
        self.row = LaneRow(code, launch, block, first, count)
        # The lanes of each group.
        self.parts = self.parted()

    def parted(self):
        """Return the list of the tuples of the running lanes that are at one index, ascending."""
        return [lanes for _, lanes in self.row.gathered(self.row.tids(RUNNING))]

    def groups(self):
        """Return the number of groups."""
        return len(self.parts)

    def active(self, group):
        """Return the tuple of the lanes of a group."""
        check_group(group, len(self.parts))
        return self.parts[group]

    def asks(self, group):
        """Return the list of the pairs of the tid and the request of the lanes of a group."""
        return self.row.requests(self.active(group))

    def step(self, group, words):
        """Do the instruction of a group, with a word for each of its lanes."""
        self.row.step(self.active(group), words)
        self.parts = self.parted()

    def waits(self):
        """Return the list of the pairs of the tid and the request of the waiting lanes."""
        return self.row.requests(self.row.tids(WAITING))

    def ended(self):
        """Return the ascending list of the tids of the lanes that have ended."""
        return self.row.tids(ENDED)

    def lanes(self):
        """Return the list of the states of all lanes."""
        return list(self.row.states)

    def release(self, words):
        """Let all waiting lanes run on, with a word for each of them."""
        self.row.release(words)
        self.parts = self.parted()

    def picture(self):
        """Return a picture: that of the lanes."""
        return self.row.picture()

    def take(self, picture):
        """Become as the warp of a picture."""
        self.row.take(picture)
        self.parts = self.parted()

    def copy(self):
        """Return a warp that behaves as this one, independent of it."""
        row = self.row
        other = FreeWarp(row.code, row.launch, row.block, row.first, len(row.states))
        other.take(self.picture())
        return other
