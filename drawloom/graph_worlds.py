"""A launch of a flow graph, step by step."""

from drawloom.effects import asked_by, going_on, made_by
from drawloom.instructions import NO_REGISTER, others_of, phis_of, written
from drawloom.playing import Play


def phi_moves(nodes):
    """Return a list, for each node, of dicts: for each node that leads to it the moves.

    A move is the pair of the register that a phi writes and the one that it gets.
    """
    found = []
    for node in nodes:
        moves = {}
        for _, write, rows in phis_of(node):
            for origin, number in rows:
                moves.setdefault(origin, []).append((write, number))
        found.append(moves)
    return found


class GraphWorld:
    """A launch of a flow graph, each thread of which may do so many steps."""

    def __init__(self, graph, launch, most):
        _, _, many, nodes = graph
        self.play = Play(graph, launch, most)
        self.nodes = [(others_of(node), node[1]) for node in nodes]
        self.moves = phi_moves(nodes)
        threads = self.play.ready_ones()
        # The node of each thread, and the index among its instructions but phis.
        self.node_of = [0 for _ in threads]
        self.at = [0 for _ in threads]
        self.registers = [[0] * many for _ in threads]

    def step(self, thread):
        """Do a step of a ready thread: an instruction or the end of a node."""
        if not self.play.begins(thread):
            return
        instructions, end = self.nodes[self.node_of[thread]]
        at = self.at[thread]
        if at == len(instructions):
            self.do_end(thread, end)
            return
        asked = asked_by(instructions[at], self.registers[thread])
        for other, word in going_on(self.play, thread, asked):
            self.go_on(other, word)

    def do_end(self, thread, end):
        """Do the end of the node of a thread."""
        if end[0] == "exit":
            self.play.finish(thread)
        elif end[0] == "jump":
            self.enter(thread, end[1])
        else:
            _, number, first, second = end
            self.enter(thread, first if self.registers[thread][number] != 0 else second)

    def enter(self, thread, node):
        """Let a thread go on at a node, and do all its phis at once."""
        registers = self.registers[thread]
        moves = self.moves[node].get(self.node_of[thread], [])
        words = [registers[number] for _, number in moves]
        for (write, _), word in zip(moves, words):
            registers[write] = word
        self.node_of[thread] = node
        self.at[thread] = 0

    def go_on(self, thread, word):
        """Let a thread go on behind its instruction, given the word that it gets."""
        instruction = self.nodes[self.node_of[thread]][0][self.at[thread]]
        registers = self.registers[thread]
        write = written(instruction)
        if write != NO_REGISTER:
            registers[write] = made_by(instruction, registers, self.play.launch, thread, word)
        self.at[thread] += 1
