"""What instructions do: what they ask of the memory and of other threads, and what they write."""

from drawloom.playing import special
from drawloom.words import binary, unary

# The request of an instruction that asks for nothing.
NO_REQUEST = ("none",)


def asked_by(instruction, registers):
    """Return the request of an instruction, given the words of the registers."""
    kind = instruction[0]
    if kind == "load":
        return (kind, instruction[2], registers[instruction[3]])
    if kind == "store":
        _, array, cell, number = instruction
        return (kind, array, registers[cell], registers[number])
    if kind == "atomic":
        _, op, array, cell, number = instruction
        return (kind, op, array, registers[cell], registers[number])
    if kind == "collect":
        return (kind, instruction[1], registers[instruction[3]], instruction[4])
    return instruction if kind in ("barrier", "exit") else NO_REQUEST


def answered(memory, thread, asked):
    """Do what a request of a thread asks of a memory; return the word that the thread gets."""
    if asked[0] == "load":
        _, array, cell = asked
        return memory.load(thread, array, cell)
    if asked[0] == "store":
        _, array, cell, word = asked
        memory.store(thread, array, cell, word)
    elif asked[0] == "atomic":
        _, op, array, cell, word = asked
        memory.atomic(thread, op, array, cell, word)
    return 0


def met(asked):
    """Return the number, the operator and the word with which a request lets a thread wait."""
    if asked[0] == "barrier":
        return (asked[1], "", 0)
    _, op, word, number = asked
    return (number, op, word)


def going_on(play, thread, asked):
    """Do what a request of a thread asks of a play; return who goes on by this.

    That is a list of pairs of a thread and the word that it gets.
    """
    if asked[0] in ("barrier", "collect"):
        number, op, word = met(asked)
        return play.wait(thread, number, op, word)
    return [(thread, answered(play, thread, asked))]


def made_by(instruction, registers, launch, thread, word):
    """Return the word that an instruction writes into its register, given the one that it got."""
    kind = instruction[0]
    if kind == "word":
        return instruction[2]
    if kind == "param":
        return launch[2][instruction[2]]
    if kind == "special":
        return special(launch, thread, instruction[2])
    if kind == "copy":
        return registers[instruction[2]]
    if kind == "unary":
        return unary(instruction[1], registers[instruction[3]])
    if kind == "binary":
        _, op, _, first, second = instruction
        return binary(op, registers[first], registers[second])
    # Loads and collects write what they were given.
    return word
