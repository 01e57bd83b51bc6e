"""Which registers are live in a flow graph without phis, as the bits of numbers."""

from drawloom.instructions import NO_REGISTER, used, used_by_end, written


def bits_of(numbers):
    """Return a number with the bits of these registers."""
    bits = 0
    for number in numbers:
        bits = bits | 1 << number
    return bits


def listed(bits):
    """Return the ascending list of the registers with these bits."""
    return [number for number in range(bits.bit_length()) if bits >> number & 1 == 1]


def in_front(instruction, live):
    """Return the bits that are live in front of an instruction, given those right behind it."""
    write = written(instruction)
    if write != NO_REGISTER:
        live = live & ~(1 << write)
    return live | bits_of(used(instruction))


def behind_each(node, live):
    """Return the list of the bits right behind each instruction of a node, and of those in front.

    The bits given are those behind its end; those in front of everything come last.
    """
    instructions, end = node
    live = live | bits_of(used_by_end(end))
    found = []
    for instruction in instructions[::-1]:
        found.append(live)
        live = in_front(instruction, live)
    found.reverse()
    found.append(live)
    return found


def live_behind(targets, live):
    """Return the bits behind an end that leads to some nodes, given those in front of all nodes."""
    bits = 0
    for target in targets:
        bits = bits | live[target]
    return bits


def live_in_front(nodes, ways):
    """Return the list of the bits that are live in front of everything in each node."""
    # What is live behind a node is live in front of it, unless the node writes it.
    live = [behind_each(node, 0)[-1] for node in nodes]
    kept = []
    for instructions, _ in nodes:
        writes = [written(instruction) for instruction in instructions]
        kept.append(~bits_of([write for write in writes if write != NO_REGISTER]))
    own = list(live)
    changed = True
    while changed:
        changed = False
        # Backwards, as most ways lead to nodes with greater numbers.
        for node in reversed(range(len(nodes))):
            bits = own[node] | (live_behind(ways[node], live) & kept[node])
            if bits != live[node]:
                live[node] = bits
                changed = True
    return live
