"""The instructions of flow graphs: their parts, and the registers that they use and write."""

# The sorts of the parts behind the first word: "read" and "write" are registers.
INSTRUCTION_PARTS = {
    "word": ("write", "word"),
    "param": ("write", "param"),
    "special": ("write", "special"),
    "copy": ("write", "read"),
    "unary": ("unary", "write", "read"),
    "binary": ("binary", "write", "read", "read"),
    "load": ("write", "array", "read"),
    "store": ("array", "read", "read"),
    "atomic": ("folding", "array", "read", "read"),
    "barrier": ("number",),
    "collect": ("folding", "write", "read", "number"),
}
PHI_PARTS = ("write", "rows")
END_PARTS = {
    "jump": ("node",),
    "branch": ("read", "node", "node"),
    "exit": (),
}

# Where an instruction has the register that it writes.
WRITTEN_AT = {
    "word": 1, "param": 1, "special": 1, "copy": 1, "load": 1, "phi": 1,
    "unary": 2, "binary": 2, "collect": 2,
}
NO_REGISTER = -1


def is_phi(instruction):
    """Tell whether an instruction is a phi."""
    return instruction[0] == "phi"


def written(instruction):
    """Return the register that an instruction writes, NO_REGISTER if it writes none."""
    at = WRITTEN_AT.get(instruction[0])
    return NO_REGISTER if at is None else instruction[at]


def used(instruction):
    """Return the list of the registers that an instruction uses, none for a phi.

    The rows of a phi are used at the ends of other nodes.
    """
    if is_phi(instruction):
        return []
    sorts = INSTRUCTION_PARTS[instruction[0]]
    return [part for sort, part in zip(sorts, instruction[1:]) if sort == "read"]


def used_by_end(end):
    """Return the list of the registers that the end of a node uses."""
    return [end[1]] if end[0] == "branch" else []


def rebuilt(instruction, write, reads):
    """Return an instruction, no phi, with other registers: the written one and those used."""
    parts = [instruction[0]]
    at = 0
    for sort, part in zip(INSTRUCTION_PARTS[instruction[0]], instruction[1:]):
        if sort == "read":
            parts.append(reads[at])
            at += 1
        elif sort == "write":
            parts.append(write)
        else:
            parts.append(part)
    return tuple(parts)


def end_with(end, reads):
    """Return the end of a node with other registers than those that it uses."""
    return ("branch", reads[0], end[2], end[3]) if end[0] == "branch" else end


def targets(end):
    """Return the list of the nodes to which an end leads, each once."""
    if end[0] == "jump":
        return [end[1]]
    if end[0] == "branch":
        return [end[2]] if end[2] == end[3] else [end[2], end[3]]
    return []


def phis_of(node):
    """Return the list of the phis of a node."""
    return [instruction for instruction in node[0] if is_phi(instruction)]


def others_of(node):
    """Return the list of the instructions of a node that are no phis."""
    return [instruction for instruction in node[0] if not is_phi(instruction)]
