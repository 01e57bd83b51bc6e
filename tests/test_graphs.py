"""Point 10: which values are flow graphs, and where their nodes lead."""

import copy
import unittest

from drawloom.errors import BadGraph, DrawloomError
from drawloom.graphs import check_graph, comes_from, fits, leads_to
from drawloom.words import BINARY, FOLDING, UNARY
from tests.randoms import random_graph
from tests.samples import GREATEST, LEAST, ODD, as_lists, part_at, places, replaced

PARAMS = (("a", "buffer"), ("n", "int"), ("b", "buffer"), ("m", "int"))
SHARED = (("s", 16), ("t", 1))
EXIT = ((), ("exit",))

# A flow graph with each instruction and each end.
ALL = (
    PARAMS, SHARED, 9,
    (
        ((("word", 0, 5), ("param", 1, 3), ("special", 2, "tid")), ("branch", 0, 1, 2)),
        ((("copy", 3, 2), ("unary", "neg", 4, 3), ("binary", "sub", 5, 4, 0)), ("jump", 3)),
        ((("load", 3, 2, 0), ("store", 6, 3, 0), ("atomic", "xor", 7, 0, 1)), ("jump", 3)),
        ((("phi", 6, ((1, 5), (2, 0), (4, 7))), ("phi", 7, ((1, 3), (2, 3), (4, 6))), ("barrier", 0)),
         ("branch", 6, 4, 5)),
        ((("collect", "add", 8, 7, 99),), ("branch", 8, 3, 4)),
        ((), ("exit",)),
    ),
)
# The node 4 leads to itself, so its phis have a row of it, too.
LOOPED = replaced(ALL, (3, 4), ((("phi", 8, ((3, 0), (4, 8))),), ("branch", 8, 3, 4)))


def graph(*nodes, registers=4):
    return (PARAMS, SHARED, registers, nodes)


def one(*instructions, registers=4):
    """Return a graph of one node with instructions."""
    return graph((instructions, ("exit",)), registers=registers)


def chain(many, *instructions):
    """Return a graph of many nodes, one behind the other, the first one with instructions."""
    nodes = [((), ("jump", at + 1)) for at in range(many - 1)] + [EXIT]
    nodes[0] = (instructions, nodes[0][1])
    return graph(*nodes)


class GraphCase(unittest.TestCase):
    def good(self, value):
        self.assertIsNone(check_graph(value), (value,))

    def bad(self, value):
        with self.assertRaises(BadGraph, msg=(value,)) as caught:
            check_graph(value)
        self.assertIs(type(caught.exception), BadGraph)


class GoodGraphTest(GraphCase):
    def test_each_instruction_and_each_end(self):
        self.good(ALL)
        self.good(LOOPED)

    def test_the_least_graph(self):
        self.good(((), (), 0, (EXIT,)))

    def test_operators_and_special_words(self):
        for op in BINARY:
            self.good(one(("binary", op, 0, 1, 1)))
        for op in UNARY:
            self.good(one(("unary", op, 0, 0)))
        for op in FOLDING:
            self.good(one(("atomic", op, 0, 1, 1), ("collect", op, 2, 2, 5)))
        for word in ("tid", "bid", "dim", "grid"):
            self.good(one(("special", 0, word)))

    def test_words(self):
        for word in (0, 1, -1, LEAST, GREATEST):
            self.good(one(("word", 0, word)))

    def test_arrays(self):
        for array in (0, 2, 6, 7):
            self.good(one(("load", 0, array, 1), ("store", array, 0, 1), ("atomic", "add", array, 0, 1)))

    def test_params(self):
        for index in (1, 3):
            self.good(one(("param", 0, index)))

    def test_a_register_may_be_used_without_being_written(self):
        self.good(one(("copy", 0, 1), ("store", 0, 3, 3)))

    def test_a_branch_that_leads_to_one_node_twice(self):
        self.good(graph(((), ("branch", 0, 1, 1)), EXIT))
        self.good(graph(((), ("branch", 0, 1, 1)), ((("phi", 0, ((0, 0),)),), ("exit",))))

    def test_no_exit_at_all(self):
        self.good(graph(((), ("jump", 1)), ((), ("jump", 1))))

    def test_a_barrier_number_may_occur_twice(self):
        self.good(one(("barrier", 7), ("barrier", 7), ("collect", "add", 0, 0, 7)))

    def test_random_ones(self):
        for seed in range(50):
            self.good(random_graph(seed, True))


class HeadTest(GraphCase):
    def test_no_tuple_of_four(self):
        for value in ODD + (ALL[:3], ALL + ((),), list(ALL), as_lists(ALL), (ALL,)):
            self.bad(value)

    def test_params_and_shared_arrays(self):
        for value in ODD:
            if value != ():
                self.bad((value, (), 0, (EXIT,)))
            # One of the odd values is a shared array.
            if value not in ((), (("word", 1),)):
                self.bad(((), value, 0, (EXIT,)))
        for params in ((("a", "word"),), (("A", "int"),), (("a", "int"), ("a", "buffer")), (("a",),)):
            self.bad((params, (), 0, (EXIT,)))
        for shared in ((("s", 0),), (("s", 17),), (("s", True),), (("a", 1),), tuple((f"s{k}", 1) for k in range(4))):
            self.bad(((("a", "int"),), shared, 0, (EXIT,)))
        self.good((tuple((f"p{k}", "int") for k in range(6)), (("s", 16), ("t", 1), ("u", 2)), 0, (EXIT,)))
        self.bad((tuple((f"p{k}", "int") for k in range(7)), (), 0, (EXIT,)))

    def test_the_number_of_registers(self):
        for number in (0, 1, 999, 1000):
            self.good(((), (), number, (EXIT,)))
        for number in (-1, 1001, 10 ** 30, True, False, None, "1", (1,), [], LEAST):
            self.bad(((), (), number, (EXIT,)))

    def test_registers_to_the_bounds(self):
        self.good(one(("copy", 999, 999), registers=1000))
        self.bad(one(("copy", 999, 1000), registers=1000))
        self.bad(one(("copy", 0, 0), registers=0))

    def test_the_nodes(self):
        for value in ODD:
            self.bad((PARAMS, SHARED, 4, value))
            self.bad(graph(value))
            self.bad(graph((value, ("exit",))) if value != () else ())
            self.bad(graph(((), value)))
            self.bad(graph((((value,)), ("exit",))))


class FormTest(GraphCase):
    def test_lists_for_tuples(self):
        for value in (ALL, LOOPED):
            for path in places(value):
                row = part_at(value, path)
                if isinstance(row, tuple):
                    self.bad(replaced(value, path, list(row)))
                    self.bad(replaced(value, path, as_lists(row)))

    def test_a_part_more_or_less(self):
        for path in places(ALL[3]):
            row = part_at(ALL[3], path)
            # Instructions and ends begin with a string, nodes and rows are pairs.
            fixed = isinstance(row, tuple) and row and (isinstance(row[0], str) or len(path) == 1)
            if fixed or (isinstance(row, tuple) and len(path) == 5):
                for other in (row + (0,), row[:-1], row[:1] + row, row[1:]):
                    self.bad(replaced(ALL, (3,) + path, other))

    def test_bools_for_numbers(self):
        for path in places(ALL):
            row = part_at(ALL, path)
            if isinstance(row, int) and path != (2,):
                self.bad(replaced(ALL, path, True))
                self.bad(replaced(ALL, path, False))
        self.bad(replaced(ALL, (2,), True))

    def test_words_that_begin_nothing(self):
        for word in ("", "Word", "jump", "exit", "branch", "pick", "let", "get", "keep", None, 0, True, ("word",), []):
            self.bad(one((word, 0, 1)))
            self.bad(one((word,)))
        for word in ("", "word", "Exit", "return", "phi", None, 0, True, ("exit",), []):
            self.bad(graph(((), (word,))))
            self.bad(graph(((), (word, 1)), EXIT))

    def test_odd_parts(self):
        for value in (ALL, LOOPED):
            for path in places(value):
                for odd in ODD:
                    changed = replaced(value, path, odd)
                    try:
                        self.assertIsNone(check_graph(changed))
                    except DrawloomError as error:
                        self.assertIs(type(error), BadGraph)

    def test_very_deep_values(self):
        deep = ()
        for _ in range(50000):
            deep = (deep,)
        for path in places(LOOPED):
            self.bad(replaced(LOOPED, path, deep))


class PartsTest(GraphCase):
    def test_registers(self):
        rows = (
            ("word", 4, 0), ("param", 4, 1), ("special", 4, "tid"), ("copy", 4, 0), ("copy", 0, 4),
            ("unary", "neg", 4, 0), ("unary", "neg", 0, 4), ("binary", "add", 4, 0, 0), ("binary", "add", 0, 4, 0),
            ("binary", "add", 0, 0, 4), ("load", 4, 0, 0), ("load", 0, 0, 4), ("store", 0, 4, 0), ("store", 0, 0, 4),
            ("atomic", "add", 0, 4, 0), ("atomic", "add", 0, 0, 4), ("collect", "add", 4, 0, 0),
            ("collect", "add", 0, 4, 0),
        )
        for row in rows:
            at = max(index for index, part in enumerate(row) if part == 4)
            for number in (0, 1, 3):
                self.good(one(replaced(row, (at,), number)))
            for number in (4, 5, -1, 1000, True, False, None, "0", (0,), [0]):
                self.bad(one(replaced(row, (at,), number)))
        for number in (4, -1, True, None, "0"):
            self.bad(graph(((), ("branch", number, 1, 1)), EXIT))

    def test_words(self):
        for word in (LEAST - 1, GREATEST + 1, 10 ** 90, True, False, None, "1", (1,), ()):
            self.bad(one(("word", 0, word)))

    def test_params(self):
        for index in (0, 2, 4, -1, -3, 6, True, None, "n", (1,)):
            self.bad(one(("param", 0, index)))

    def test_special_words(self):
        for word in ("", "Tid", "warp", "n", None, 0, True, ("tid",), ["tid"], []):
            self.bad(one(("special", 0, word)))

    def test_operators(self):
        for op in ("", "neg", "plus", None, 0, True, ("add",), ["add"]):
            self.bad(one(("binary", op, 0, 0, 0)))
        for op in ("", "add", "abs", None, 0, True, ("neg",), ["neg"]):
            self.bad(one(("unary", op, 0, 0)))
        for op in [op for op in BINARY if op not in FOLDING] + ["", "neg", None, 0, ("add",)]:
            self.bad(one(("atomic", op, 0, 0, 0)))
            self.bad(one(("collect", op, 0, 0, 0)))

    def test_arrays(self):
        for array in (1, 3, 4, 5, 8, 9, -1, -2, -4, 100, True, False, None, "a", (0,)):
            self.bad(one(("load", 0, array, 0)))
            self.bad(one(("store", array, 0, 0)))
            self.bad(one(("atomic", "add", array, 0, 0)))
        self.bad(((), (), 1, (((("load", 0, 0, 0),), ("exit",)),)))
        self.bad(((), (), 1, (((("load", 0, 6, 0),), ("exit",)),)))
        self.good(((), (("s", 1),), 1, (((("load", 0, 6, 0),), ("exit",)),)))

    def test_numbers_of_barriers(self):
        for number in (0, 1, 99):
            self.good(one(("barrier", number), ("collect", "add", 0, 0, number)))
        for number in (-1, 100, 101, True, False, None, "0", (0,)):
            self.bad(one(("barrier", number)))
            self.bad(one(("collect", "add", 0, 0, number)))

    def test_ends(self):
        for node in (0, -1, 2, 3, 1000, True, None, "1", (1,)):
            self.bad(graph(((), ("jump", node)), EXIT))
            self.bad(graph(((), ("branch", 0, node, 1)), EXIT))
            self.bad(graph(((), ("branch", 0, 1, node)), EXIT))
        self.bad(graph(((), ("jump", 0))))
        self.bad(graph(((), ("jump", 1)), ((), ("jump", 0))))

    def test_nodes_that_can_not_be_reached(self):
        self.bad(graph(EXIT, EXIT))
        self.bad(graph(((), ("jump", 1)), EXIT, EXIT))
        self.bad(graph(((), ("jump", 1)), EXIT, ((), ("jump", 3)), ((), ("jump", 2))))
        self.bad(graph(((), ("jump", 1)), EXIT, ((), ("jump", 1))))
        self.good(graph(((), ("jump", 2)), EXIT, ((), ("jump", 1))))


class PhiTest(GraphCase):
    def with_rows(self, rows, write=0):
        """Return a graph with a phi in node 3, to which the nodes 1, 2 and 3 lead."""
        return graph(
            ((), ("branch", 0, 1, 2)), ((), ("jump", 3)), ((), ("jump", 3)),
            ((("phi", write, rows),), ("branch", 1, 3, 4)), EXIT,
        )

    def test_rows(self):
        self.good(self.with_rows(((1, 0), (2, 3), (3, 0))))
        self.good(self.with_rows(((1, 0), (2, 0), (3, 0))))

    def test_a_row_more_or_less(self):
        for rows in (
            (), ((1, 0),), ((1, 0), (2, 0)), ((2, 0), (3, 0)), ((1, 0), (3, 0)),
            ((0, 0), (1, 0), (2, 0), (3, 0)), ((1, 0), (2, 0), (3, 0), (4, 0)), ((1, 0), (2, 0), (3, 0), (3, 0)),
        ):
            self.bad(self.with_rows(rows))

    def test_rows_in_another_order(self):
        for rows in (((2, 0), (1, 0), (3, 0)), ((3, 0), (2, 0), (1, 0)), ((1, 0), (3, 0), (2, 0))):
            self.bad(self.with_rows(rows))

    def test_a_row_of_a_node_that_does_not_lead_here(self):
        for node in (0, 4, 5, -1, True, None, "1", (1,)):
            self.bad(self.with_rows(((1, 0), (2, 0), (node, 0))))
            self.bad(self.with_rows(((node, 0), (2, 0), (3, 0))))

    def test_registers_of_rows(self):
        for number in (4, -1, True, None, "0", (0,)):
            self.bad(self.with_rows(((1, number), (2, 0), (3, 0))))
            self.bad(self.with_rows(((1, 0), (2, 0), (3, 0)), write=number))

    def test_the_form_of_rows(self):
        for row in ((), (3,), (3, 0, 0), [3, 0], None, 3, "30"):
            self.bad(self.with_rows(((1, 0), (2, 0), row)))
        self.bad(self.with_rows([(1, 0), (2, 0), (3, 0)]))

    def test_behind_another_instruction(self):
        phi = ("phi", 0, ((0, 0),))
        other = ("phi", 1, ((0, 0),))
        start = ((), ("jump", 1))
        self.good(graph(start, ((phi, other, ("word", 2, 0)), ("exit",))))
        self.bad(graph(start, ((("word", 2, 0), phi), ("exit",))))
        self.bad(graph(start, ((phi, ("word", 2, 0), other), ("exit",))))

    def test_in_node_0(self):
        self.bad(one(("phi", 0, ())))
        self.bad(one(("phi", 0, ((0, 0),))))

    def test_two_that_write_the_same_register(self):
        start = ((), ("jump", 1))
        self.bad(graph(start, ((("phi", 0, ((0, 0),)), ("phi", 0, ((0, 1),))), ("exit",))))
        self.good(graph(start, ((("phi", 0, ((0, 0),)), ("phi", 1, ((0, 0),)), ("word", 0, 1)), ("exit",))))

    def test_one_row_for_a_branch_that_leads_here_twice(self):
        start = ((), ("branch", 0, 1, 1))
        self.good(graph(start, ((("phi", 0, ((0, 0),)),), ("exit",))))
        self.bad(graph(start, ((("phi", 0, ((0, 0), (0, 0))),), ("exit",))))


class BoundsTest(GraphCase):
    def test_nodes(self):
        self.good(chain(399))
        self.good(chain(400))
        self.bad(chain(401))
        self.bad(chain(402))

    def test_nodes_and_instructions(self):
        row = ("word", 0, 0)
        self.good(one(*[row] * 999))
        self.bad(one(*[row] * 1000))
        self.good(chain(400, *[row] * 600))
        self.bad(chain(400, *[row] * 601))
        self.bad(one(*[row] * 5000))

    def test_phis_count(self):
        def joined(many):
            phis = tuple(("phi", number, ((0, 0),)) for number in range(many))
            return graph(((), ("jump", 1)), (phis, ("exit",)), registers=1000)
        self.good(joined(998))
        self.bad(joined(999))


    def test_what_fits(self):
        row = ("word", 0, 0)
        for value, told in (
            (graph(EXIT, registers=1000), True), (graph(EXIT, registers=1001), False), (chain(400), True),
            (chain(401), False), (one(*[row] * 999), True), (one(*[row] * 1000), False),
            (chain(400, *[row] * 600), True), (chain(400, *[row] * 601), False),
        ):
            self.assertIs(fits(value), told)


class NeighborsTest(unittest.TestCase):
    def test_where_nodes_lead(self):
        self.assertEqual(leads_to(ALL), [[1, 2], [3], [3], [4, 5], [3, 4], []])
        self.assertEqual(comes_from(ALL), [[], [0], [0], [1, 2, 4], [3, 4], [3]])

    def test_one_node(self):
        self.assertEqual((leads_to(one()), comes_from(one())), ([[]], [[]]))

    def test_a_branch_leads_to_k_before_m(self):
        value = graph(((), ("branch", 0, 2, 1)), EXIT, EXIT)
        self.assertEqual((leads_to(value), comes_from(value)), ([[2, 1], [], []], [[], [0], [0]]))

    def test_a_branch_that_leads_to_one_node_twice(self):
        value = graph(((), ("branch", 0, 1, 1)), ((), ("branch", 0, 1, 1)))
        self.assertEqual((leads_to(value), comes_from(value)), ([[1], [1]], [[], [0, 1]]))

    def test_origins_ascend(self):
        value = graph(
            ((), ("branch", 0, 3, 2)), ((), ("jump", 1)), ((), ("branch", 0, 1, 3)), ((), ("branch", 1, 1, 2)),
        )
        self.assertEqual(comes_from(value), [[], [1, 2, 3], [0, 3], [0, 2]])

    def test_lists_belong_to_the_caller(self):
        for value in (ALL, LOOPED):
            for told in (leads_to, comes_from):
                first, before = told(value), copy.deepcopy(told(value))
                for row in first:
                    row.append(7)
                first.clear()
                self.assertEqual(told(value), before)
                rows = told(value)
                self.assertEqual(len({id(row) for row in rows}), len(rows))

    def test_random_ones(self):
        for seed in range(100):
            value = random_graph(seed, most_nodes=15)
            ways = leads_to(value)
            for node, (_, end) in enumerate(value[3]):
                self.assertEqual(ways[node], list(dict.fromkeys(end[1:] if end[0] == "jump" else end[2:])))
                self.assertEqual(
                    comes_from(value)[node], [other for other in range(len(ways)) if node in ways[other]])


class ArgumentTest(unittest.TestCase):
    def test_the_value_stays_as_it_is(self):
        for value in (ALL, as_lists(ALL), replaced(ALL, (3, 0), list(ALL[3][0])), replaced(ALL, (3,), [])):
            before = copy.deepcopy(value)
            try:
                check_graph(value)
            except BadGraph:
                pass
            self.assertEqual(value, before)


if __name__ == "__main__":
    unittest.main()
