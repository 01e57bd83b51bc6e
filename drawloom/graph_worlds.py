"""A launch of a flow graph, step by step."""

from drawloom.instructions import others_of, phis_of
from drawloom.playing import Play, special
from drawloom.words import binary, unary


def phi_moves(nodes):
    """Return a list, for each node, of dicts: for each node that leads to it the moves.

    A move is the pair of the register that a phi writes and the one that it gets.
    """
    found = []
    for node in nodes:
        moves = {}
        for _, write, rows in phis_of(node):
            for origin, number in rows:
                moves.setdefault(origin, []).append((write, number))
        found.append(moves)
    return found


class GraphWorld:
    """A launch of a flow graph, each thread of which may do so many steps."""

    def __init__(self, graph, launch, most):
        _, _, many, nodes = graph
        self.play = Play(graph, launch, most)
        self.nodes = [(others_of(node), node[1]) for node in nodes]
        self.moves = phi_moves(nodes)
        threads = self.play.ready_ones()
        # The node of each thread, and the index among its instructions but phis.
        self.node_of = [0 for _ in threads]
        self.at = [0 for _ in threads]
        self.registers = [[0] * many for _ in threads]

    def step(self, thread):
        """Do a step of a ready thread: an instruction or the end of a node."""
        if not self.play.begins(thread):
            return
        instructions, end = self.nodes[self.node_of[thread]]
        at = self.at[thread]
        if at == len(instructions):
            self.do_end(thread, end)
        elif instructions[at][0] in ("barrier", "collect"):
            self.do_meeting(thread, instructions[at])
        else:
            done(self.play, thread, self.registers[thread], instructions[at])
            self.at[thread] = at + 1

    def do_end(self, thread, end):
        """Do the end of the node of a thread."""
        if end[0] == "exit":
            self.play.finish(thread)
        elif end[0] == "jump":
            self.enter(thread, end[1])
        else:
            _, number, first, second = end
            self.enter(thread, first if self.registers[thread][number] != 0 else second)

    def enter(self, thread, node):
        """Let a thread go on at a node, and do all its phis at once."""
        registers = self.registers[thread]
        moves = self.moves[node].get(self.node_of[thread], [])
        words = [registers[number] for _, number in moves]
        for (write, _), word in zip(moves, words):
            registers[write] = word
        self.node_of[thread] = node
        self.at[thread] = 0

    def do_meeting(self, thread, instruction):
        """Let a thread wait at a barrier or a collect, and all pass who can."""
        if instruction[0] == "barrier":
            passing = self.play.wait(thread, instruction[1], "", 0)
        else:
            _, op, _, number, meeting = instruction
            passing = self.play.wait(thread, meeting, op, self.registers[thread][number])
        for other, word in passing:
            instructions, _ = self.nodes[self.node_of[other]]
            met = instructions[self.at[other]]
            if met[0] == "collect":
                self.registers[other][met[2]] = word
            self.at[other] += 1


def done(play, thread, registers, instruction):
    """Do an instruction that neither waits nor leads elsewhere, with a thread's registers."""
    word = instruction[0]
    if word == "word":
        registers[instruction[1]] = instruction[2]
    elif word == "param":
        registers[instruction[1]] = play.launch[2][instruction[2]]
    elif word == "special":
        registers[instruction[1]] = special(play.launch, thread, instruction[2])
    elif word == "copy":
        registers[instruction[1]] = registers[instruction[2]]
    elif word == "unary":
        _, op, write, number = instruction
        registers[write] = unary(op, registers[number])
    elif word == "binary":
        _, op, write, first, second = instruction
        registers[write] = binary(op, registers[first], registers[second])
    elif word == "load":
        _, write, array, number = instruction
        registers[write] = play.load(thread, array, registers[number])
    elif word == "store":
        _, array, first, second = instruction
        play.store(thread, array, registers[first], registers[second])
    else:
        _, op, array, first, second = instruction
        play.atomic(thread, op, array, registers[first], registers[second])
