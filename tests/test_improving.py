"""Points 16 and 17: improved flow graphs."""

import copy
import unittest

from drawloom.errors import NotInForm
from drawloom.forming import in_form, is_in_form
from drawloom.graphs import check_graph, run_graph
from drawloom.improving import improved, is_improved
from drawloom.lowering import lowered
from drawloom.words import BINARY, UNARY, binary, unary
from tests.randoms import random_graph, random_kernel, random_launch
from tests.reference import SlowGraph
from tests.same import (
    ENOUGH, comes_before, does_the_same, instructions, is_in_form_by_words, phis, random_form, used_at, with_other_rows,
    written_at,
)
from tests.short import PARAMS, SHARED, launch

EXIT = ("exit",)
NODE = ((), EXIT)
TO_A, TO_B, TO_S = 0, 2, 6


def graph(*nodes, registers=20):
    value = (PARAMS, SHARED, registers, nodes)
    check_graph(value)
    return value


def one(*rows):
    return graph((rows, EXIT))


def word(number, value=0):
    return ("word", number, value)


def store(number, cell=0):
    return ("store", TO_A, cell, number)


def phi(number, *rows):
    return ("phi", number, rows)


TID = ("special", 0, "tid")


def needed_rows(value):
    """Return the list of the instructions that are needed."""
    rows = instructions(value)
    needed = [row for row in rows if row[0] in ("store", "atomic", "barrier", "collect")]
    while True:
        used = [row[at] for row in needed for at in used_at(row)]
        used += [number for row in needed if row[0] == "phi" for _, number in row[2]]
        used += [end[at] for _, end in value[3] for at in used_at(end)]
        more = [row for row in rows if row not in needed and written_at(row) and row[written_at(row)] in used]
        if not more:
            return needed
        needed += more


def is_improved_by_words(value):
    """Tell whether a graph in form is improved, condition by condition of point 16."""
    rows = instructions(value)
    words = {row[1] for row in rows if row[0] == "word"}
    for row in rows:
        if row[0] in ("unary", "binary") and all(row[at] in words for at in used_at(row)):
            return False
        if row[0] == "copy" or row[0] == "phi" and len({number for _, number in row[2]} - {row[1]}) < 2:
            return False
    for _, end in value[3]:
        if end[0] == "branch" and (end[1] in words or end[2] == end[3]):
            return False
    known = {}
    for node, (rows, _) in enumerate(value[3]):
        for at, row in enumerate(rows):
            if row[0] in ("word", "param", "special", "unary", "binary"):
                key = row[:written_at(row)] + row[written_at(row) + 1:]
                known.setdefault(key, []).append((node, at))
    for places in known.values():
        if any(comes_before(value, one, other) for one in places for other in places if one != other):
            return False
    return len(needed_rows(value)) == len(instructions(value))


class ImprovingCase(unittest.TestCase):
    def good(self, value):
        self.assertIs(is_in_form_by_words(value), True)
        self.assertIs(is_improved(value), True, value)
        self.assertIs(is_improved_by_words(value), True)
        self.better(value)

    def bad(self, value):
        self.assertIs(is_in_form_by_words(value), True)
        self.assertIs(is_improved(value), False, value)
        self.assertIs(is_improved_by_words(value), False)
        self.better(value)

    def better(self, value, starts=(launch(1, 2), launch(1, 1))):
        """Check what improved makes of a graph in form; return it."""
        result = improved(value)
        self.assertIsNone(check_graph(result))
        self.assertIs(is_in_form_by_words(result), True)
        self.assertIs(is_improved(result), True)
        self.assertIs(is_improved_by_words(result), True, result)
        self.assertEqual(result[:2], value[:2])
        self.assertLessEqual(len(result[3]), len(value[3]))
        self.assertLessEqual(len(instructions(result)), len(instructions(value)))
        for start in starts:
            if does_the_same(self, value, result, start) == "ok":
                self.assertEqual(meetings(result, start), meetings(value, start))
        return result


def meetings(value, start):
    """Return the barriers and collects that the threads pass in the run without turns."""
    slow = SlowGraph(value, start, ENOUGH * 2)
    slow.run([])
    return slow.met


class IsImprovedTest(ImprovingCase):
    def test_graphs_that_break_nothing(self):
        self.good(one())
        self.good(one(TID, store(0)))
        self.good(one(TID, word(1, 3), ("binary", "add", 2, 0, 1), ("unary", "neg", 3, 2), store(3, 2)))
        self.good(graph(((TID,), ("branch", 0, 1, 2)), NODE, NODE))
        self.good(graph(((TID,), ("branch", 0, 1, 2)), ((word(1, 5), store(1)), ("jump", 3)), ((), ("jump", 3)),
                        ((("unary", "neg", 2, 0), store(2)), EXIT)))
        self.good(graph(
            ((TID, word(1, 1)), ("jump", 1)),
            ((phi(2, (0, 0), (1, 3)), ("binary", "sub", 3, 2, 1)), ("branch", 3, 1, 2)), ((store(2, 1),), EXIT),
        ))

    def test_unary_and_binary_of_words(self):
        for op in UNARY:
            self.bad(one(word(0, 5), ("unary", op, 1, 0), store(1)))
            self.good(one(TID, ("unary", op, 1, 0), store(1)))
        for op in BINARY:
            self.bad(one(word(0, 5), word(1, 3), ("binary", op, 2, 0, 1), store(2)))
            self.bad(one(word(0, 5), ("binary", op, 2, 0, 0), store(2)))
            self.good(one(TID, word(1, 3), ("binary", op, 2, 0, 1), store(2)))
            self.good(one(TID, word(1, 3), ("binary", op, 2, 1, 0), store(2)))
            self.good(one(TID, ("binary", op, 2, 0, 0), store(2)))
        self.bad(graph(((word(0, 5), TID[:1] + (1, "tid")), ("branch", 1, 1, 2)), ((("unary", "neg", 2, 0), store(2)), EXIT),
                       NODE))

    def test_a_branch_on_a_word(self):
        self.bad(graph(((word(0, 5),), ("branch", 0, 1, 2)), NODE, NODE))
        self.bad(graph(((word(0, 0), TID[:1] + (1, "tid")), ("branch", 1, 1, 2)), ((), ("branch", 0, 3, 2)), NODE, NODE))

    def test_a_branch_that_leads_to_one_node_twice(self):
        self.bad(graph(((TID,), ("branch", 0, 1, 1)), NODE))
        self.bad(graph(((TID,), ("branch", 0, 1, 2)), ((store(0),), ("branch", 0, 2, 2)), NODE))

    def test_copies(self):
        self.bad(one(TID, ("copy", 1, 0), store(1)))
        self.bad(one(TID, ("copy", 1, 0), store(0)))

    def test_phis_whose_registers_are_the_same(self):
        start = ((TID, ("unary", "neg", 9, 0)), ("branch", 0, 1, 2))
        sides = (((store(9),), ("jump", 3)), ((), ("jump", 3)))
        self.bad(graph(start, *sides, ((phi(1, (1, 0), (2, 0)), store(1)), EXIT)))
        self.good(graph(start, *sides, ((phi(1, (1, 0), (2, 9)), store(1)), EXIT)))
        self.bad(graph(((TID,), ("jump", 1)), ((phi(1, (0, 0)), store(1)), EXIT)))

    def test_phis_whose_registers_are_the_same_apart_from_their_own(self):
        first = ((TID, word(1, 1)), ("jump", 1))
        count = (phi(2, (0, 0), (1, 3)), ("binary", "sub", 3, 2, 1))
        self.bad(graph(first, (count + (word(5, 1),), ("branch", 3, 1, 2)), ((store(2, 5),), EXIT)))
        self.bad(graph(first, ((phi(2, (0, 0), (1, 3)), phi(4, (0, 0), (1, 4)), count[1]), ("branch", 3, 1, 2)),
                       ((store(4),), EXIT)))
        self.good(graph(first, ((phi(2, (0, 0), (1, 3)), phi(4, (0, 0), (1, 2)), count[1]), ("branch", 3, 1, 2)),
                        ((store(4),), EXIT)))

    def test_equal_instructions(self):
        for row in (
            ("word", 1, 7), ("param", 1, 1), ("special", 1, "dim"), ("unary", "not", 1, 0), ("binary", "mul", 1, 0, 0),
        ):
            other = tuple(2 if part == 1 and at == written_at(row) else part for at, part in enumerate(row))
            self.bad(one(TID, row, store(1), other, store(2)))
            self.bad(graph(((TID, row, store(1)), ("jump", 1)), ((other, store(2)), EXIT)))
            # None of the two comes before the other one.
            ways = (((row, store(1)), EXIT), ((other, store(2)), EXIT))
            self.good(graph(((TID,), ("branch", 0, 1, 2)), *ways))
            self.good(graph(((TID,), ("branch", 0, 1, 2)), ((row, store(1)), ("jump", 2)), ((other, store(2)), EXIT)))

    def test_instructions_that_are_not_quite_equal(self):
        self.good(one(TID, word(1, 7), word(2, 8), store(1), store(2)))
        self.good(one(TID, ("special", 1, "bid"), store(1)))
        self.good(one(TID, ("special", 1, "bid"), ("binary", "sub", 2, 0, 1), ("binary", "sub", 3, 1, 0), store(2), store(3)))
        self.good(one(TID, ("unary", "neg", 1, 0), ("unary", "not", 2, 0), store(1), store(2)))

    def test_loads_collects_and_phis_may_be_equal(self):
        self.good(one(TID, ("load", 1, TO_A, 0), ("load", 2, TO_A, 0), store(1), store(2)))
        self.good(one(TID, ("collect", "add", 1, 0, 4), ("collect", "add", 2, 0, 4), store(1), store(2)))
        self.good(graph(
            ((TID, word(3, 3)), ("branch", 0, 1, 2)), ((store(3),), ("jump", 2)),
            ((phi(1, (0, 0), (1, 3)), phi(2, (0, 0), (1, 3)), store(1), store(2)), EXIT),
        ))

    def test_instructions_that_are_not_needed(self):
        for row in (
            word(1, 3), ("param", 1, 1), ("special", 1, "bid"), ("unary", "neg", 1, 0), ("binary", "add", 1, 0, 0),
            ("load", 1, TO_A, 0),
        ):
            self.bad(one(TID, row, store(0)))
            self.good(one(TID, row, store(1)))
        self.bad(one(TID, ("unary", "neg", 1, 0), ("unary", "neg", 2, 1), store(0)))

    def test_instructions_that_are_always_needed(self):
        self.good(one(TID, store(0), ("atomic", "add", TO_A, 0, 0), ("barrier", 3), ("collect", "min", 1, 0, 4)))

    def test_what_is_needed_through_phis(self):
        start = ((TID, word(3, 3), word(4, 4)), ("branch", 0, 1, 2))
        sides = (((("atomic", "add", TO_A, 0, 0),), ("jump", 3)), ((), ("jump", 3)))
        self.good(graph(start, *sides, ((phi(1, (1, 3), (2, 4)), store(1)), EXIT)))
        self.bad(graph(start, *sides, ((phi(1, (1, 3), (2, 4)), store(0)), EXIT)))

    def test_what_is_needed_round_a_loop(self):
        first = ((TID, word(1, 1)), ("jump", 1))
        count = (phi(2, (0, 0), (1, 3)), phi(4, (0, 1), (1, 5)), ("binary", "sub", 3, 2, 1))
        used = graph(first, (count + (("binary", "mul", 5, 4, 2),), ("branch", 3, 1, 2)), ((store(5),), EXIT))
        self.good(used)
        # The registers 4 and 5 are used by each other alone.
        self.bad(graph(first, (count + (("binary", "mul", 5, 4, 2),), ("branch", 3, 1, 2)), ((store(2),), EXIT)))

    def test_not_in_form(self):
        for value in (
            one(word(0), word(0)), one(store(0)), graph(((), ("branch", 0, 1, 1)), NODE),
            one(("copy", 1, 0), word(0)), lowered(((), (), (("let", "x", ("word", 1)), ("set", "x", ("word", 2))))),
        ):
            for told in (is_improved, improved):
                with self.assertRaises(NotInForm) as caught:
                    told(value)
                self.assertIs(type(caught.exception), NotInForm)

    def test_not_in_form_exactly(self):
        found = {True: 0, False: 0}
        for seed in range(200):
            value = random_graph(seed, most_registers=40)
            found[is_in_form_by_words(value)] += 1
            if is_in_form_by_words(value):
                self.assertEqual(is_improved(value), is_improved_by_words(value))
            else:
                for told in (is_improved, improved):
                    with self.assertRaises(NotInForm):
                        told(value)
        self.assertGreater(min(found.values()), 10)

    def test_random_graphs(self):
        found = {True: 0, False: 0}
        for seed in range(300):
            value = random_form(seed, seed % 2 == 0)
            for each in (value, with_other_rows(improved(value), seed)):
                told = is_improved(each)
                found[told] += 1
                self.assertEqual(told, is_improved_by_words(each), each)
        self.assertGreater(min(found.values()), 50)

    def test_improved_graphs_with_another_instruction(self):
        found = {True: 0, False: 0}
        for seed in range(150):
            value = improved(random_form(seed, seed % 2 == 0))
            for at, row in enumerate(instructions(value)):
                for other in (
                    ("word", 3), ("special", "tid"), ("param", 1), ("unary", "neg", first_written(value)),
                    ("copy", first_written(value)),
                ):
                    if written_at(row) and row[0] != "phi":
                        index = written_at(other)
                        each = with_row(value, at, other[:index] + (row[written_at(row)],) + other[index:])
                        if is_in_form(each):
                            told = is_improved(each)
                            found[told] += 1
                            self.assertEqual(told, is_improved_by_words(each), each)
        self.assertGreater(min(found.values()), 30)


def first_written(value):
    """Return the register that the first instruction writes, 0 if it writes none."""
    rows = instructions(value)
    return rows[0][written_at(rows[0])] if rows and written_at(rows[0]) else 0


def with_row(value, number, row):
    """Return a graph with another instruction for the one with a number."""
    nodes = []
    for rows, end in value[3]:
        if 0 <= number < len(rows):
            rows = rows[:number] + (row,) + rows[number + 1:]
        number -= len(rows)
        nodes.append((rows, end))
    return value[:3] + (tuple(nodes),)


class ImprovedTest(ImprovingCase):
    def test_words_are_reckoned(self):
        for op in BINARY:
            result = self.better(one(word(0, -7), word(1, 3), ("binary", op, 2, 0, 1), ("param", 3, 1), store(2, 3)))
            self.assertIn(("word", binary(op, -7, 3)), [(row[0], row[-1]) for row in instructions(result)])
            self.assertEqual(len(instructions(result)), 3)
        for op in UNARY:
            result = self.better(one(word(0, -7), ("unary", op, 2, 0), ("param", 3, 1), store(2, 3)))
            self.assertIn(("word", unary(op, -7)), [(row[0], row[-1]) for row in instructions(result)])
        rows = [word(0, 2)] + [("binary", "mul", k + 1, k, k) for k in range(6)]
        result = self.better(one(*rows, store(6, 0)))
        self.assertEqual(len(instructions(result)), 3)
        self.assertEqual(run_graph(result, launch(), [], 9)[1][0][2], 0)

    def test_a_branch_on_a_word_becomes_a_jump(self):
        for number, word_stored in ((0, 6), (1, 5), (-3, 5)):
            value = graph(((word(0, number), word(1, 0)), ("branch", 0, 1, 2)), ((word(2, 5), store(2, 1)), ("jump", 3)),
                          ((word(3, 6), store(3, 1)), ("jump", 3)), NODE)
            result = self.better(value)
            self.assertEqual(len(result[3]), 3)
            self.assertEqual([end[0] for _, end in result[3]], ["jump", "jump", "exit"])
            self.assertEqual(run_graph(result, launch(), [], 99)[1][0][0], word_stored)

    def test_phis_have_fewer_rows_then(self):
        value = graph(
            ((word(0, 0), TID[:1] + (1, "tid"), ("param", 2, 1)), ("branch", 1, 1, 2)),
            ((), ("branch", 0, 3, 2)), ((), ("jump", 4)), ((), ("jump", 4)),
            ((phi(5, (2, 1), (3, 2)), store(5, 1)), EXIT),
        )
        result = self.better(value)
        self.assertEqual((len(result[3]), phis(result)), (4, []))
        value = graph(
            ((word(0, 0), TID[:1] + (1, "tid"), ("param", 2, 1)), ("branch", 1, 1, 2)),
            ((), ("branch", 0, 3, 4)), ((), ("jump", 4)), ((), ("jump", 4)),
            ((phi(5, (1, 2), (2, 1), (3, 0)), store(5, 1)), EXIT),
        )
        self.assertEqual([len(row[2]) for row in phis(self.better(value))], [2])

    def test_nodes_that_can_not_be_reached_lead_to_ones_that_can(self):
        value = graph(
            ((word(0, 0), TID[:1] + (1, "tid")), ("branch", 0, 1, 3)), ((), ("branch", 1, 2, 4)), ((), ("jump", 1)),
            ((), ("jump", 4)), ((phi(2, (1, 0), (3, 1)), store(2)), EXIT),
        )
        result = self.better(value)
        self.assertEqual(len(result[3]), 3)

    def test_a_branch_that_leads_to_one_node_twice(self):
        value = graph(((TID, ("unary", "zero", 1, 0)), ("branch", 1, 1, 1)), ((phi(2, (0, 0)), store(2)), EXIT))
        result = self.better(value)
        self.assertEqual(result[3][0][1], ("jump", 1))
        self.assertEqual(len(instructions(result)), 2)

    def test_copies_of_copies(self):
        rows = [("copy", k + 1, k) for k in range(8)]
        self.assertEqual(len(instructions(self.better(one(TID, *rows, store(8, 4), store(3, 5))))), 3)
        value = graph(((TID, ("copy", 1, 0)), ("branch", 1, 1, 2)), ((("copy", 2, 1),), ("jump", 3)), ((), ("jump", 3)),
                      ((phi(3, (1, 2), (2, 1)), ("copy", 4, 3), store(4)), EXIT))
        self.assertEqual(len(instructions(self.better(value))), 2)

    def test_equal_instructions_that_come_one_before_the_other(self):
        value = one(TID, ("special", 1, "tid"), ("unary", "neg", 2, 0), ("unary", "neg", 3, 1),
                    ("binary", "mul", 4, 2, 3), ("binary", "mul", 5, 3, 2), store(4), store(5))
        self.assertEqual(len(instructions(self.better(value))), 5)
        value = graph(((TID, word(1, 3)), ("branch", 0, 1, 2)), ((word(2, 3), store(2)), ("jump", 2)),
                      ((word(3, 3), ("special", 4, "tid"), store(3, 4)), EXIT))
        self.assertEqual(len(instructions(self.better(value))), 4)

    def test_loads_stay_apart(self):
        value = one(TID, ("load", 1, TO_A, 0), store(0), ("load", 2, TO_A, 0), ("atomic", "add", TO_B, 0, 1),
                    ("atomic", "add", TO_B, 0, 2))
        self.assertEqual(improved(value), value)

    def test_what_is_not_needed_is_left_out(self):
        value = graph(
            ((TID, word(1, 1), ("load", 6, TO_A, 0)), ("jump", 1)),
            ((phi(2, (0, 0), (1, 3)), phi(4, (0, 1), (1, 5)), ("binary", "sub", 3, 2, 1), ("binary", "mul", 5, 4, 2)),
             ("branch", 3, 1, 2)), ((store(2),), EXIT),
        )
        self.assertEqual(len(instructions(self.better(value))), 5)

    def test_results_that_make_others_possible(self):
        # The words make a jump of the branch, that a phi of one row, that a word, and so on.
        value = graph(
            ((word(0, 2), word(1, 2), ("binary", "sub", 2, 0, 1), TID[:1] + (3, "tid")), ("branch", 2, 1, 2)),
            ((word(4, 9),), ("jump", 3)), ((word(5, 4),), ("jump", 3)),
            ((phi(6, (1, 4), (2, 5)), ("binary", "sub", 7, 6, 0), ("binary", "eq", 8, 7, 1)), ("branch", 8, 4, 5)),
            ((("copy", 9, 3),), ("jump", 6)), ((("unary", "neg", 10, 3),), ("jump", 6)),
            ((phi(11, (4, 9), (5, 10)), ("special", 12, "tid"), ("binary", "sub", 13, 11, 12), store(13, 3)), EXIT),
        )
        result = self.better(value)
        self.assertEqual(len(instructions(result)), 3)
        self.assertEqual(sum(end[0] == "branch" for _, end in result[3]), 0)

    def test_a_loop_whose_test_is_a_word(self):
        for number in (0, 1):
            value = graph(
                ((word(0, number), TID[:1] + (1, "tid"), word(5, 1)), ("jump", 1)),
                ((phi(2, (0, 1), (2, 3)),), ("branch", 0, 2, 3)),
                ((("binary", "sub", 3, 2, 5), ("atomic", "add", TO_A, 1, 3)), ("jump", 1)), ((store(2, 1),), EXIT),
            )
            result = self.better(value)
            self.assertEqual(len(result[3]), 3)
            self.assertEqual([end[0] for _, end in result[3]].count("exit"), 1 - number)

    def test_a_loop_that_has_no_exit(self):
        value = graph(((TID, word(1, 1)), ("jump", 1)),
                      ((phi(2, (0, 0), (1, 3)), ("binary", "add", 3, 2, 1), store(3, 2)), ("jump", 1)))
        self.good(value)
        value = graph(((TID,), ("jump", 1)), ((phi(2, (0, 0), (1, 2)), ("unary", "neg", 3, 2)), ("jump", 1)))
        self.assertEqual(instructions(self.better(value)), [])

    def test_a_loop_that_is_never_entered(self):
        value = graph(((word(0, 0), TID[:1] + (1, "tid")), ("branch", 0, 1, 2)), ((store(1),), ("branch", 1, 1, 2)),
                      ((store(1, 1),), EXIT))
        self.assertEqual(len(self.better(value)[3]), 2)

    def test_barriers_and_collects_stay(self):
        value = graph(
            ((TID, word(1, 0), ("collect", "add", 2, 1, 5), ("barrier", 6), ("barrier", 6)), ("branch", 1, 1, 2)),
            ((("barrier", 7),), ("jump", 2)), ((("collect", "min", 3, 0, 8),), EXIT),
        )
        result = self.better(value, [launch(2, 3)])
        told = [row[0] for row in instructions(result)]
        self.assertEqual(told.count("barrier"), 2)
        self.assertEqual(told.count("collect"), 2)

    def test_an_improved_graph_stays_as_large(self):
        for seed in range(80):
            value = improved(random_form(seed))
            again = improved(value)
            self.assertEqual([len(rows) for rows, _ in again[3]], [len(rows) for rows, _ in value[3]])

    def test_random_graphs(self):
        fewer = 0
        for seed in range(300):
            value = random_form(seed, seed % 2 == 0)
            result = self.better(value, [random_launch(seed), random_launch(seed + 500)])
            fewer += len(result[3]) < len(value[3])
        self.assertGreater(fewer, 10)

    def test_graphs_of_kernels(self):
        for seed in range(150):
            value = in_form(lowered(random_kernel(seed, seed % 3 == 0)))
            self.better(value, [random_launch(seed)])

    def test_a_thread_does_not_more_steps(self):
        for seed in range(60):
            value = in_form(lowered(random_kernel(seed)))
            start = random_launch(seed)
            end, memory, races, steps = run_graph(value, start, [], 3000)
            if end == "ok" and not races:
                result = run_graph(improved(value), start, [], 3000)
                self.assertEqual(result[:3], (end, memory, races))
                self.assertLessEqual(result[3], steps)


class StuckTest(ImprovingCase):
    def test_launches_that_are_stuck(self):
        value = graph(
            ((TID, word(1, 3), word(2, 3)), ("branch", 0, 1, 2)),
            ((("binary", "add", 3, 1, 2), ("barrier", 1)), ("jump", 3)), ((store(1), ("barrier", 2)), ("jump", 3)), NODE,
        )
        self.better(value)
        self.assertEqual(does_the_same(self, value, improved(value), launch(1, 2)), "stuck")


class ArgumentTest(unittest.TestCase):
    def test_the_graph_stays_and_results_are_equal(self):
        for seed in range(30):
            value = random_form(seed)
            before = copy.deepcopy(value)
            self.assertEqual(improved(value), improved(value))
            is_improved(value)
            self.assertEqual(value, before)


if __name__ == "__main__":
    unittest.main()
