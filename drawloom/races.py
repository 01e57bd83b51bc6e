"""Races: accesses of different threads that conflict and are not ordered."""


def is_race(one, other):
    """Tell whether two accesses to one cell are a race.

    Each is a tuple of an access, the block of its thread, and the phase of that thread.
    """
    (_, _, thread, kind, _), block, phase = one
    (_, _, other_thread, other_kind, _), other_block, other_phase = other
    if thread == other_thread:
        return False
    # Loads, and atomic operations with one operator, get along with their own kind.
    if kind == other_kind and kind != "store":
        return False
    return block != other_block or phase == other_phase


class Races:
    """The races among the accesses that it is told, which come in their order."""

    def __init__(self):
        # For each cell without a race its accesses, by thread, kind and phase.
        self.earlier = {}
        self.raced = {}
        self.told = []

    def meet(self, access, block, phase):
        """Take an access of a thread of a block in a phase; keep the race that it makes."""
        space, cell, thread, kind, _ = access
        spot = (space, cell)
        if spot in self.raced:
            return
        earlier = self.earlier.setdefault(spot, {})
        key = (thread, kind, phase)
        # What would be in a race with this access was so with the first one of its
        # key: only that one is kept, which is the earliest of them, too.
        if key in earlier:
            return
        row = (access, block, phase)
        for other in earlier.values():
            if is_race(other, row):
                self.told.append((other[0], access))
                self.raced[spot] = True
                return
        earlier[key] = row

    def picture(self):
        """Return a picture: what is kept of the accesses, and the races told so far."""
        kept = []
        for rows in self.earlier.values():
            kept.extend(list(rows.values()))
        return (tuple(kept), tuple(self.told))

    def take(self, picture):
        """Become as the races of a picture; these have met nothing yet."""
        kept, told = picture
        for access, block, phase in kept:
            space, cell, thread, kind, _ = access
            rows = self.earlier.setdefault((space, cell), {})
            rows[(thread, kind, phase)] = (access, block, phase)
        self.told = list(told)
        # Both accesses of a race are to the cell that has it.
        self.raced = {(access[0], access[1]): True for access, _ in told}

    def copied(self):
        """Return races that go on as these, independent of them."""
        other = Races()
        other.take(self.picture())
        return other
