"""Lanes: the states of threads that do code, one instruction after the other."""

from drawloom.effects import asked_by, made_by
from drawloom.instructions import NO_REGISTER, written

MANY_REGISTERS = 8


def first_lane(code):
    """Return the state with the index 0 and words 0."""
    return (0, (0,) * MANY_REGISTERS, (0,) * code[2])


def request(code, lane):
    """Return the request of a state."""
    at, registers, _ = lane
    return asked_by(code[3][at], registers)


def with_word(words, index, word):
    """Return a tuple of words with another one at an index."""
    return words[:index] + (word,) + words[index + 1:]


def next_index(instruction, at, registers):
    """Return the index at which a lane goes on behind an instruction that is no exit."""
    if instruction[0] == "jump":
        return instruction[1]
    if instruction[0] == "branch" and registers[instruction[1]] != 0:
        return instruction[2]
    return at + 1


def behind(code, launch, thread, lane, word):
    """Return the state behind a state of the thread with a number, given a word."""
    at, registers, cells = lane
    instruction = code[3][at]
    if instruction[0] == "exit":
        return lane
    if instruction[0] == "get":
        _, write, cell = instruction
        registers = with_word(registers, write, cells[cell])
    elif instruction[0] == "keep":
        _, cell, number = instruction
        cells = with_word(cells, cell, registers[number])
    elif written(instruction) != NO_REGISTER:
        made = made_by(instruction, registers, launch, thread, word)
        registers = with_word(registers, written(instruction), made)
    return (next_index(instruction, at, registers), registers, cells)
