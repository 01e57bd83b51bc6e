"""A launch of code, step by step."""

from drawloom.effects import going_on
from drawloom.lanes import behind, first_lane, request
from drawloom.playing import Play


class CodeWorld:
    """A launch of code, each thread of which may do so many steps."""

    def __init__(self, code, launch, most):
        self.code = code
        self.launch = launch
        self.play = Play(code, launch, most)
        self.states = [first_lane(code) for _ in self.play.ready_ones()]

    def step(self, thread):
        """Do a step of a ready thread: an instruction."""
        if not self.play.begins(thread):
            return
        asked = request(self.code, self.states[thread])
        if asked[0] == "exit":
            self.play.finish(thread)
            return
        for other, word in going_on(self.play, thread, asked):
            self.states[other] = behind(self.code, self.launch, other, self.states[other], word)
