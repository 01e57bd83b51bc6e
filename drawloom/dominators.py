"""Dominators and postdominators of the nodes of a flow graph, frontiers and regions."""

from drawloom.graphs import comes_from, leads_to, reached

# Where there is no immediate dominator.
NO_NODE = -1


def outward_order(root, ways):
    """Return the list of the nodes that can be reached from the root, it first.

    Each node stands behind all that dominate it.
    """
    order = []
    seen = {root: True}
    stack = [root]
    # How many ways of each node on the stack have been followed.
    followed = [0]
    while len(stack) > 0:
        node = stack[-1]
        if followed[-1] == len(ways[node]):
            order.append(stack.pop())
            followed.pop()
        else:
            target = ways[node][followed[-1]]
            followed[-1] += 1
            if target not in seen:
                seen[target] = True
                stack.append(target)
                followed.append(0)
    order.reverse()
    return order


def meeting(found, place, one, other):
    """Return the nearest node that dominates two; place tells where each stands in the order."""
    while one != other:
        if place[one] > place[other]:
            one = found[one]
        else:
            other = found[other]
    return one


def immediate_ones(root, ways, origins):
    """Return the list of the immediate dominators where all ways begin at the root.

    It is NO_NODE for the root and for what cannot be reached from there.
    """
    order = outward_order(root, ways)
    place = {node: index for index, node in enumerate(order)}
    found = [NO_NODE for _ in ways]
    found[root] = root
    changed = True
    while changed:
        changed = False
        for node in order[1:]:
            best = NO_NODE
            for origin in origins[node]:
                if found[origin] != NO_NODE:
                    best = origin if best == NO_NODE else meeting(found, place, best, origin)
            if found[node] != best:
                found[node] = best
                changed = True
    found[root] = NO_NODE
    return found


def is_above(found, one, other):
    """Tell whether a node dominates another one, given the list of the immediate ones."""
    while other != NO_NODE and other != one:
        other = found[other]
    return other == one


def dominators(graph):
    """Return the list of the immediate dominators, -1 for node 0."""
    return immediate_ones(0, leads_to(graph), comes_from(graph))


def postdominators(graph):
    """Return the list of the immediate postdominators, -1 where there is none."""
    ways, origins = leads_to(graph), comes_from(graph)
    # One node more, to which all exits lead: everything is turned round from there.
    last = len(ways)
    exits = [node for node in range(last) if len(ways[node]) == 0]
    for node in exits:
        ways[node].append(last)
    found = immediate_ones(last, origins + [exits], ways + [[]])
    return [NO_NODE if node == last else node for node in found[:last]]


def dominates(graph, a, b):
    """Tell whether node a dominates node b."""
    return is_above(dominators(graph), a, b)


def frontiers(graph):
    """Return the list, for each node, of the ascending list of its frontier."""
    immediate = dominators(graph)
    found = [{} for _ in immediate]
    for node, origins in enumerate(comes_from(graph)):
        for origin in origins:
            above = origin
            # All that dominate the origin, up to where they dominate the node, too.
            while above != immediate[node]:
                found[above][node] = True
                above = immediate[above]
    return [sorted(nodes) for nodes in found]


def region(graph, b):
    """Return the ascending list of the nodes that depend on the branch of node b."""
    ways = leads_to(graph)
    join = postdominators(graph)[b]
    # No way goes on at the join, none to it matters.
    kept = [[target for target in targets if target != join] for targets in ways]
    return sorted(reached(kept, kept[b]))
