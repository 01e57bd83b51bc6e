"""Flow graphs in form, improved: words reckoned, and whatever is not needed left out."""

from drawloom.dominators import dominators, outward_order
from drawloom.forming import check_form
from drawloom.graphs import comes_from, leads_to, reached
from drawloom.instructions import (
    NO_REGISTER, end_with, is_phi, rebuilt, used, used_by_end, written,
)
from drawloom.words import binary, unary

# What a thread does with others, or what they can see: it is never left out.
LASTING = ("store", "atomic", "barrier", "collect")
# Two of these that are equal apart from the written register have the same word.
REPEATABLE = ("word", "param", "special", "unary", "binary")


def words_written(graph):
    """Return a dict from the registers that are written by words to these."""
    found = {}
    for instructions, _ in graph[3]:
        for instruction in instructions:
            if instruction[0] == "word":
                found[instruction[1]] = instruction[2]
    return found


def in_outward_order(graph):
    """Return the list of the indices of the nodes, each behind those that dominate it."""
    return outward_order(0, leads_to(graph))


def reckoned(graph):
    """Return a dict from the registers of unary and binary that use only words to their words.

    What such ones write is taken for a word, too.
    """
    known = words_written(graph)
    found = {}
    for node in in_outward_order(graph):
        for instruction in graph[3][node][0]:
            if instruction[0] not in ("unary", "binary"):
                continue
            words = [known.get(number) for number in used(instruction)]
            if all([word is not None for word in words]):
                write = written(instruction)
                known[write] = result_of(instruction, words)
                found[write] = known[write]
    return found


def result_of(instruction, words):
    """Return what a unary or a binary makes of words."""
    if instruction[0] == "unary":
        return unary(instruction[1], words[0])
    return binary(instruction[1], words[0], words[1])


def with_words(graph):
    """Return the graph with words for all that uses only words."""
    found = reckoned(graph)
    nodes = []
    for instructions, end in graph[3]:
        row = []
        for instruction in instructions:
            write = written(instruction)
            row.append(("word", write, found[write]) if write in found else instruction)
        nodes.append((tuple(row), end))
    return graph[:3] + (tuple(nodes),)


def copied_from(instruction):
    """Return the register whose word a copy or a phi always has, NO_REGISTER if there is none."""
    if instruction[0] == "copy":
        return instruction[2]
    if not is_phi(instruction):
        return NO_REGISTER
    _, write, rows = instruction
    others = {number: True for _, number in rows if number != write}
    return list(others)[0] if len(others) == 1 else NO_REGISTER


def copies(graph):
    """Return a dict from the registers that only have the word of another one to that one."""
    found = {}
    for instructions, _ in graph[3]:
        for instruction in instructions:
            origin = copied_from(instruction)
            if origin != NO_REGISTER:
                found[written(instruction)] = origin
    return found


def repeats(graph):
    """Return a dict from the registers whose word an equal instruction has written before.

    Equal are also those that use registers of which this is known.
    """
    immediate = dominators(graph)
    found = {}
    known = [{} for _ in immediate]
    for node in in_outward_order(graph):
        if node != 0:
            above = known[immediate[node]]
            known[node] = {key: above[key] for key in above}
        for instruction in graph[3][node][0]:
            if instruction[0] in REPEATABLE:
                write = written(instruction)
                reads = [found.get(number, number) for number in used(instruction)]
                key = rebuilt(instruction, NO_REGISTER, reads)
                if key in known[node]:
                    found[write] = known[node][key]
                else:
                    known[node][key] = write
    return found


def last_of(origins, number):
    """Return the register that stands for another one, through any number of rows of a dict."""
    while number in origins:
        number = origins[number]
    return number


def renamed(instruction, origins):
    """Return an instruction with those registers that stand for the ones that it uses."""
    if is_phi(instruction):
        _, write, rows = instruction
        return ("phi", write, tuple([(node, last_of(origins, number)) for node, number in rows]))
    reads = [last_of(origins, number) for number in used(instruction)]
    return rebuilt(instruction, written(instruction), reads)


def without(graph, origins):
    """Return the graph without the instructions that write the registers of a dict.

    The dict has a register for each of them that is used in its place.
    """
    nodes = []
    for instructions, end in graph[3]:
        kept = [row for row in instructions if written(row) not in origins]
        row = tuple([renamed(instruction, origins) for instruction in kept])
        reads = [last_of(origins, number) for number in used_by_end(end)]
        nodes.append((row, end_with(end, reads)))
    return graph[:3] + (tuple(nodes),)


def straight(end, words):
    """Return an end as a jump, if it can lead only to one node."""
    if end[0] != "branch":
        return end
    _, number, first, second = end
    if first == second:
        return ("jump", first)
    if number not in words:
        return end
    return ("jump", first if words[number] != 0 else second)


def with_jumps(graph):
    """Return the graph with jumps for branches that can lead only to one node.

    The nodes that cannot be reached any more are left out.
    """
    words = words_written(graph)
    nodes = [(instructions, straight(end, words)) for instructions, end in graph[3]]
    changed = graph[:3] + (tuple(nodes),)
    kept = sorted(reached(leads_to(changed), [0]))
    numbers = {node: index for index, node in enumerate(kept)}
    origins = comes_from(changed)
    found = []
    for node in kept:
        instructions, end = nodes[node]
        row = tuple([with_rows_of(instruction, origins[node], numbers) for instruction in instructions])
        found.append((row, end_to(end, numbers)))
    return graph[:3] + (tuple(found),)


def with_rows_of(instruction, origins, numbers):
    """Return an instruction, a phi with rows only for these nodes, by their new numbers."""
    if not is_phi(instruction):
        return instruction
    _, write, rows = instruction
    kept = [(numbers[node], number) for node, number in rows if node in numbers and node in origins]
    return ("phi", write, tuple(kept))


def end_to(end, numbers):
    """Return an end that leads to nodes by their new numbers."""
    if end[0] == "branch":
        return ("branch", end[1], numbers[end[2]], numbers[end[3]])
    return ("jump", numbers[end[1]]) if end[0] == "jump" else end


def is_straight(graph):
    """Tell whether each branch can lead to two nodes."""
    words = words_written(graph)
    return all([straight(end, words) == end for _, end in graph[3]])


def all_used(instruction):
    """Return the list of the registers that an instruction uses, the rows of a phi among them."""
    if is_phi(instruction):
        return [number for _, number in instruction[2]]
    return used(instruction)


def needless(graph):
    """Return a dict of the registers that only instructions write which are not needed."""
    makers = {}
    waiting = []
    for instructions, end in graph[3]:
        waiting.extend(used_by_end(end))
        for instruction in instructions:
            makers[written(instruction)] = instruction
            if instruction[0] in LASTING:
                waiting.extend(used(instruction) + [written(instruction)])
    needed = {NO_REGISTER: True}
    while len(waiting) > 0:
        number = waiting.pop()
        if number not in needed:
            needed[number] = True
            waiting.extend(all_used(makers[number]))
    return {number: number for number in makers if number not in needed}


def without_needless(graph):
    """Return the graph without the instructions that are not needed."""
    dropped = needless(graph)
    nodes = []
    for instructions, end in graph[3]:
        nodes.append((tuple([row for row in instructions if written(row) not in dropped]), end))
    return graph[:3] + (tuple(nodes),)


def is_improved(graph):
    """Tell whether a flow graph in form is improved."""
    check_form(graph)
    if not is_straight(graph):
        return False
    found = (reckoned(graph), copies(graph), repeats(graph), needless(graph))
    return all([len(row) == 0 for row in found])


def improved(graph):
    """Return an improved flow graph that does the same as one in form."""
    # Each result can make others possible; none of them adds anything, so it ends.
    # A graph that is not in form is told by is_improved.
    while not is_improved(graph):
        graph = with_words(graph)
        graph = without(graph, copies(graph))
        graph = with_jumps(graph)
        graph = without(graph, repeats(graph))
        graph = without_needless(graph)
    return graph
