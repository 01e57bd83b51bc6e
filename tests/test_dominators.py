"""Point 13: dominators, postdominators, frontiers and regions."""

import copy
import unittest

from drawloom.dominators import dominates, dominators, frontiers, postdominators, region
from drawloom.lowering import lowered
from tests.randoms import random_graph, random_kernel
from tests.shapes import (
    SHAPES, frontier_of, immediate, is_dominated, is_postdominated, random_shape, region_of, shape,
)

# The graphs of the tests: those of the list, random ones, and those of kernels.
GRAPHS = (
    list(SHAPES.values()) + [random_shape(seed) for seed in range(250)] + [random_graph(seed) for seed in range(50)]
    + [lowered(random_kernel(seed, True, 5)) for seed in range(25)]
)


class DominatorsTest(unittest.TestCase):
    def told(self, name):
        return dominators(SHAPES[name])

    def test_spelled_out(self):
        self.assertEqual(self.told("one node"), [-1])
        self.assertEqual(self.told("a straight way"), [-1, 0, 1, 2])
        self.assertEqual(self.told("a straight way with other numbers"), [-1, 2, 3, 0])
        self.assertEqual(self.told("a branch"), [-1, 0, 0, 0])
        self.assertEqual(self.told("a branch of which one way is empty"), [-1, 0, 0])
        self.assertEqual(self.told("branches in a branch"), [-1, 0, 0, 1, 1, 0])
        self.assertEqual(self.told("a loop in a loop"), [-1, 0, 1, 2, 2, 1])
        self.assertEqual(self.told("a loop that is entered at two nodes"), [-1, 0, 0, 2])
        self.assertEqual(self.told("a node that leads to itself"), [-1, 0, 1])
        self.assertEqual(self.told("a branch that leads to one node twice"), [-1, 0, 1])
        self.assertEqual(self.told("no exit from any node"), [-1, 0, 1, 1])

    def test_by_taking_nodes_away(self):
        for graph in GRAPHS:
            expected = [immediate(graph, b, is_dominated) for b in range(len(graph[3]))]
            self.assertEqual(dominators(graph), expected, graph)

    def test_each_node_but_the_first_has_one(self):
        for graph in GRAPHS:
            found = dominators(graph)
            self.assertEqual([node for node in range(len(found)) if found[node] == -1], [0])

    def test_dominates(self):
        for graph in GRAPHS[::3]:
            for a in range(len(graph[3])):
                for b in range(len(graph[3])):
                    self.assertIs(dominates(graph, a, b), is_dominated(graph, a, b), (graph, a, b))

    def test_a_node_dominates_itself(self):
        for graph in SHAPES.values():
            for node in range(len(graph[3])):
                self.assertIs(dominates(graph, node, node), True)
                self.assertIs(dominates(graph, 0, node), True)
                if node:
                    self.assertIs(dominates(graph, node, 0), False)

    def test_a_long_way(self):
        ways = [(k + 1,) for k in range(399)] + [()]
        graph = shape(*ways)
        self.assertEqual(dominators(graph), list(range(-1, 399)))
        self.assertEqual(postdominators(graph), list(range(1, 400)) + [-1])
        self.assertIs(dominates(graph, 1, 399), True)
        # Each node may leave to the last one.
        graph = shape(*[(k + 1, 399) for k in range(398)], (399,), ())
        self.assertEqual(dominators(graph), list(range(-1, 398)) + [0])
        self.assertEqual(postdominators(graph), [399] * 399 + [-1])


class PostdominatorsTest(unittest.TestCase):
    def told(self, name):
        return postdominators(SHAPES[name])

    def test_spelled_out(self):
        self.assertEqual(self.told("one node"), [-1])
        self.assertEqual(self.told("a straight way"), [1, 2, 3, -1])
        self.assertEqual(self.told("a branch"), [3, 3, 3, -1])
        self.assertEqual(self.told("a branch without a join"), [-1, -1, -1])
        self.assertEqual(self.told("a branch of which one way is empty"), [2, 2, -1])
        self.assertEqual(self.told("branches in a branch"), [5, 5, 5, 5, 5, -1])
        self.assertEqual(self.told("a loop"), [1, 3, 1, -1])
        self.assertEqual(self.told("a loop with a break"), [1, 4, 4, 1, -1])
        self.assertEqual(self.told("a loop that is entered at two nodes"), [2, 2, 3, -1])
        self.assertEqual(self.told("several exits"), [-1, -1, -1, 4, -1, -1, -1])

    def test_where_no_exit_can_be_reached(self):
        self.assertEqual(self.told("a node that leads to itself and is left nowhere"), [-1, -1])
        self.assertEqual(self.told("no exit from any node"), [-1] * 4)
        self.assertEqual(self.told("no exit from some nodes"), [2, -1, 4, -1, -1, -1])
        self.assertEqual(self.told("no exit behind a branch in a loop"), [1, 3, 1, -1, -1])

    def test_by_taking_nodes_away(self):
        for graph in GRAPHS:
            expected = [immediate(graph, b, is_postdominated) for b in range(len(graph[3]))]
            self.assertEqual(postdominators(graph), expected, graph)


class FrontiersTest(unittest.TestCase):
    def told(self, name):
        return frontiers(SHAPES[name])

    def test_spelled_out(self):
        self.assertEqual(self.told("one node"), [[]])
        self.assertEqual(self.told("a branch"), [[], [3], [3], []])
        self.assertEqual(self.told("a loop"), [[], [1], [1], []])
        self.assertEqual(self.told("a loop in a loop"), [[], [1], [1, 2], [2], [1], []])
        self.assertEqual(self.told("a loop that is entered at two nodes"), [[], [2], [1], []])
        self.assertEqual(self.told("a branch that leads to one node twice"), [[], [], []])

    def test_a_node_in_its_own_frontier(self):
        self.assertEqual(self.told("a node that leads to itself"), [[], [1], []])
        self.assertEqual(self.told("a branch that leads to itself twice"), [[], [1], []])

    def test_by_the_words_of_the_point(self):
        for graph in GRAPHS:
            expected = [frontier_of(graph, a) for a in range(len(graph[3]))]
            self.assertEqual(frontiers(graph), expected, graph)


class RegionTest(unittest.TestCase):
    def test_spelled_out(self):
        for name, node, expected in (
            ("one node", 0, []), ("a straight way", 0, []), ("a branch", 0, [1, 2]), ("a branch", 3, []),
            ("a branch without a join", 0, [1, 2]), ("a branch of which one way is empty", 0, [1]),
            ("branches in a branch", 0, [1, 2, 3, 4]), ("branches in a branch", 1, [3, 4]),
            ("several exits", 0, [1, 2, 3, 4, 5, 6]), ("several exits", 1, [2, 3, 4, 5, 6]), ("several exits", 3, []),
        ):
            self.assertEqual(region(SHAPES[name], node), expected, (name, node))

    def test_a_node_in_its_own_region(self):
        for name, node, expected in (
            ("a loop", 1, [1, 2]), ("a loop", 2, []), ("a loop in a loop", 2, [2, 3]),
            ("a loop in a loop", 1, [1, 2, 3, 4]), ("a node that leads to itself", 1, [1]),
            ("a loop with a break", 2, [1, 2, 3]), ("a loop with two ways back", 2, [3, 4]),
        ):
            self.assertEqual(region(SHAPES[name], node), expected, (name, node))

    def test_where_no_exit_can_be_reached(self):
        self.assertEqual(region(SHAPES["a node that leads to itself and is left nowhere"], 0), [1])
        self.assertEqual(region(SHAPES["a node that leads to itself and is left nowhere"], 1), [1])
        self.assertEqual(region(SHAPES["no exit from any node"], 1), [1, 2, 3])
        self.assertEqual(region(SHAPES["no exit from some nodes"], 0), [1, 3])

    def test_by_the_words_of_the_point(self):
        for graph in GRAPHS:
            for node in range(len(graph[3])):
                self.assertEqual(region(graph, node), region_of(graph, node), (graph, node))


class OwnersTest(unittest.TestCase):
    def test_lists_belong_to_the_caller(self):
        for graph in GRAPHS[:40]:
            for told in (dominators, postdominators, frontiers, lambda value: region(value, 0)):
                first, before = told(graph), copy.deepcopy(told(graph))
                for row in first:
                    if isinstance(row, list):
                        row.append(7)
                first.append(8)
                self.assertEqual(told(graph), before)
                rows = [row for row in told(graph) if isinstance(row, list)]
                self.assertEqual(len({id(row) for row in rows}), len(rows))

    def test_kinds_of_values(self):
        for graph in GRAPHS[:40]:
            for told in (dominators, postdominators, frontiers, lambda value: region(value, 0)):
                self.assertIs(type(told(graph)), list)
            self.assertEqual({type(row) for row in frontiers(graph)}, {list})


if __name__ == "__main__":
    unittest.main()
