"""The lanes of a warp in a row: their states, and which of them run, wait or have ended."""

from drawloom.errors import NotReady
from drawloom.lanes import behind, first_lane, request

RUNNING = "running"
WAITING = "waiting"
ENDED = "ended"


class LaneRow:
    """So many neighboring threads of a block, from the one with the tid first on."""

    def __init__(self, code, launch, block, first, count):
        self.code = code
        self.launch = launch
        self.block = block
        self.first = first
        self.states = [first_lane(code) for _ in range(count)]
        self.moods = [RUNNING for _ in range(count)]

    def tids(self, mood):
        """Return the ascending list of the tids of the lanes that run, wait or have ended."""
        return [self.first + index for index, other in enumerate(self.moods) if other == mood]

    def requests(self, tids):
        """Return the list of the pairs of the tid and the request of some lanes."""
        return [(tid, request(self.code, self.states[tid - self.first])) for tid in tids]

    def gathered(self, tids):
        """Return the ascending list of pairs of an index and the tuple of those lanes that are there."""
        found = {}
        for tid in tids:
            found.setdefault(self.states[tid - self.first][0], []).append(tid)
        return [(at, tuple(found[at])) for at in sorted(found)]

    def go_on(self, tid, word):
        """Give a lane the state behind its own."""
        index = tid - self.first
        thread = self.block * self.launch[1] + tid
        self.states[index] = behind(self.code, self.launch, thread, self.states[index], word)

    def step(self, tids, words):
        """Do the instruction at which all of some lanes are; tell whether they run on."""
        at = self.states[tids[0] - self.first][0]
        kind = self.code[3][at][0]
        if kind not in ("barrier", "collect", "exit"):
            for tid, word in zip(tids, words):
                self.go_on(tid, word)
            return True
        for tid in tids:
            self.moods[tid - self.first] = ENDED if kind == "exit" else WAITING
        return False

    def release(self, words):
        """Let all lanes that wait run on, with a word for each of them."""
        waiting = self.tids(WAITING)
        if len(waiting) == 0 or len(self.tids(RUNNING)) > 0:
            raise NotReady("the warp cannot be released")
        for tid, word in zip(waiting, words):
            self.go_on(tid, word)
            self.moods[tid - self.first] = RUNNING

    def picture(self):
        """Return a picture: the states, and what each lane does."""
        return (tuple(self.states), tuple(self.moods))

    def take(self, picture):
        """Become as the row of a picture."""
        states, moods = picture
        self.states = list(states)
        self.moods = list(moods)
