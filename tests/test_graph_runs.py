"""Point 11: runs of flow graphs."""

import copy
import unittest

from drawloom.forming import in_form
from drawloom.graphs import check_graph, run_graph
from drawloom.words import BINARY, FOLDING, UNARY, binary, fold, unary
from tests.randoms import random_graph, random_launch, random_turns
from tests.reference import slow_run_graph
from tests.short import A, PARAMS, SHARED, launch, load_of, store_of

# Arrays by their numbers: the buffers a and b, the shared arrays s and t.
TO_A, TO_B, TO_S, TO_T = 0, 2, 6, 7
NODE = ((), ("exit",))


def graph(*nodes, registers=8):
    value = (PARAMS, SHARED, registers, nodes)
    check_graph(value)
    return value


def one(*instructions):
    return graph((instructions, ("exit",)))


def told(value, start=None, turns=(), most=100):
    return run_graph(value, start or launch(), list(turns), most)


def put(cell, number, first=6):
    """Return the instructions that store a register in a cell of the buffer a."""
    return (("word", first, cell), ("store", TO_A, first, number))


class InstructionsTest(unittest.TestCase):
    def stored(self, *instructions, start=None):
        """Return the word that is stored of the register 0 behind some instructions."""
        end, memory, races, steps = told(one(*instructions, *put(0, 0)), start)
        self.assertEqual((end, races, steps), ("ok", [], len(instructions) + 3))
        return memory[0][0]

    def test_registers_are_0_at_first(self):
        self.assertEqual(self.stored(("binary", "add", 0, 0, 5), start=launch(a=(9,))), 0)

    def test_word(self):
        for word in (3, -1, 2 ** 31 - 1, -2 ** 31):
            self.assertEqual(self.stored(("word", 0, word)), word)

    def test_param(self):
        self.assertEqual(self.stored(("param", 0, 1), start=launch(n=-9)), -9)
        value = ((("n", "int"), ("a", "buffer"), ("m", "int")), (), 2, (
            ((("param", 0, 0), ("param", 1, 2), ("store", 1, 0, 1)), ("exit",)),
        ))
        self.assertEqual(run_graph(value, (1, 1, (1, 0, 8), ((0, 0),)), [], 9)[1], ((0, 8),))

    def test_special(self):
        for special, words in (
            ("tid", (0, 1, 2, 0, 1, 2)), ("bid", (0, 0, 0, 1, 1, 1)), ("dim", (3,) * 6), ("grid", (2,) * 6),
        ):
            value = one(
                ("special", 0, special), ("special", 1, "bid"), ("special", 2, "dim"), ("special", 3, "tid"),
                ("binary", "mul", 1, 1, 2), ("binary", "add", 1, 1, 3), ("store", TO_A, 1, 0),
            )
            self.assertEqual(told(value, launch(2, 3))[1][0][:6], words)

    def test_copy(self):
        self.assertEqual(self.stored(("word", 1, 4), ("copy", 0, 1), ("word", 1, 5)), 4)

    def test_unary(self):
        for op in UNARY:
            for word in (0, 5, -2 ** 31):
                self.assertEqual(self.stored(("word", 1, word), ("unary", op, 0, 1)), unary(op, word))

    def test_binary(self):
        for op in BINARY:
            row = (("word", 1, -7), ("word", 2, 3), ("binary", op, 0, 1, 2))
            self.assertEqual(self.stored(*row), binary(op, -7, 3))
        self.assertEqual(self.stored(("word", 0, 9), ("binary", "sub", 0, 0, 1)), 9)

    def test_load(self):
        start = launch(a=(4, 5), b=(6, 7))
        for array, cell, word in (
            (TO_A, 1, 5), (TO_B, 0, 6), (TO_A, 2, 0), (TO_A, -1, 0), (TO_S, 3, 0), (TO_T, 2, 0), (TO_B, -2, 0),
        ):
            self.assertEqual(self.stored(("word", 1, cell), ("load", 0, array, 1), start=start), word)

    def test_store(self):
        value = one(("word", 0, 1), ("word", 1, 8), ("store", TO_B, 0, 1), ("store", TO_T, 0, 1), ("load", 2, TO_T, 0),
                    ("store", TO_A, 0, 2))
        self.assertEqual(told(value, launch(a=(1, 2), b=(3, 4)))[:2], ("ok", ((1, 8), (3, 8))))

    def test_store_and_atomic_where_no_cell_is(self):
        for cell in (-1, 2, 3):
            value = one(("word", 0, cell), ("store", TO_A, 0, 0), ("atomic", "add", TO_A, 0, 0))
            self.assertEqual(told(value, launch(2, 2, a=(1, 2))), ("ok", ((1, 2), (0,) * 8), [], 16))

    def test_atomic(self):
        for op in FOLDING:
            value = one(("word", 0, 1), ("word", 1, 12), ("atomic", op, TO_A, 0, 1))
            self.assertEqual(told(value, launch(a=(9, 10)))[1][0], (9, binary(op, 10, 12)))

    def test_a_step_for_each_instruction_and_end(self):
        self.assertEqual(told(one())[3], 1)
        self.assertEqual(told(one(("word", 0, 1), ("word", 1, 1)))[3], 3)
        self.assertEqual(told(one(("word", 0, 1)), launch(2, 3))[3], 12)


class EndsTest(unittest.TestCase):
    def test_jump(self):
        value = graph(((("word", 0, 3),), ("jump", 2)), (put(0, 0), ("exit",)), ((("word", 0, 4),), ("jump", 1)))
        self.assertEqual(told(value)[::3], ("ok", 7))
        self.assertEqual(told(value)[1][0][0], 4)

    def test_branch(self):
        for word, stored in ((0, 2), (1, 1), (-1, 1), (2, 1), (2 ** 31 - 1, 1), (-2 ** 31, 1)):
            value = graph(
                ((("word", 0, word),), ("branch", 0, 1, 2)),
                ((("word", 1, 1),) + put(0, 1), ("exit",)), ((("word", 1, 2),) + put(0, 1), ("exit",)),
            )
            self.assertEqual(told(value)[1][0][0], stored)
            self.assertEqual(told(value)[3], 6)

    def test_a_branch_that_leads_to_one_node_twice(self):
        for word in (0, 1):
            phi = ("phi", 2, ((0, 0),))
            value = graph(((("word", 0, word),), ("branch", 0, 1, 1)), ((phi,) + put(0, 2), ("exit",)))
            self.assertEqual((told(value)[1][0][0], told(value)[3]), (word, 5))

    def test_each_thread_goes_its_way(self):
        value = graph(
            ((("special", 0, "tid"), ("word", 1, 5)), ("branch", 0, 1, 2)),
            ((("store", TO_A, 0, 1),), ("exit",)), ((("word", 1, 7), ("store", TO_A, 0, 1)), ("exit",)),
        )
        for turns in ([], [1] * 9, [0, 1, 2] * 5):
            self.assertEqual(told(value, launch(1, 3), turns), ("ok", ((7, 5, 5, 0, 0, 0, 0, 0), (0,) * 8), [], 16))

    def test_a_loop(self):
        value = graph(
            ((("word", 0, 3), ("word", 1, 1)), ("jump", 1)),
            ((("binary", "sub", 0, 0, 1), ("binary", "add", 2, 2, 0)), ("branch", 0, 1, 2)),
            (put(0, 2), ("exit",)),
        )
        self.assertEqual((told(value)[1][0][0], told(value)[3]), (3, 3 + 9 + 3))


class PhisTest(unittest.TestCase):
    def test_the_register_of_the_node_that_was_left(self):
        for word, stored in ((1, 11), (0, 12)):
            value = graph(
                ((("word", 0, word), ("word", 1, 11), ("word", 2, 12)), ("branch", 0, 1, 2)),
                ((), ("jump", 3)), ((), ("jump", 3)), ((("phi", 3, ((1, 1), (2, 2))),) + put(0, 3), ("exit",)),
            )
            # The phi is a part of the step of the jump.
            self.assertEqual((told(value)[1][0][0], told(value)[3]), (stored, 8))

    def loop(self, *phis, rounds=3):
        """Return a graph that goes round so often, with phis on the registers 0 to 3."""
        first = (("word", 4, 10), ("word", 5, 20), ("word", 6, 30), ("word", 7, rounds))
        ones = graph_with_loop(first, phis)
        return told(ones, most=200)[1][0][:3]

    def test_phis_that_exchange_registers(self):
        phis = (("phi", 0, ((0, 4), (1, 1))), ("phi", 1, ((0, 5), (1, 0))))
        for rounds, words in ((1, (10, 20)), (2, (20, 10)), (3, (10, 20)), (4, (20, 10))):
            self.assertEqual(self.loop(*phis, rounds=rounds)[:2], words)

    def test_phis_that_turn_three(self):
        phis = (("phi", 0, ((0, 4), (1, 1))), ("phi", 1, ((0, 5), (1, 2))), ("phi", 2, ((0, 6), (1, 0))))
        for rounds, words in ((1, (10, 20, 30)), (2, (20, 30, 10)), (3, (30, 10, 20)), (4, (10, 20, 30))):
            self.assertEqual(self.loop(*phis, rounds=rounds), words)

    def test_a_phi_that_reads_what_another_one_writes(self):
        phis = (("phi", 0, ((0, 4), (1, 4))), ("phi", 1, ((0, 5), (1, 0))), ("phi", 2, ((0, 6), (1, 1))))
        for rounds, words in ((1, (10, 20, 30)), (2, (10, 10, 20)), (3, (10, 10, 10))):
            self.assertEqual(self.loop(*phis, rounds=rounds), words)

    def test_a_phi_of_itself(self):
        self.assertEqual(self.loop(("phi", 0, ((0, 4), (1, 0))))[0], 10)


def graph_with_loop(first, phis):
    """Return a graph whose node 1 leads to itself as often as the register 7 says."""
    count = ("phi", 3, ((0, 7), (1, 9)))
    lower = (("word", 8, 1), ("binary", "sub", 9, 3, 8))
    stores = sum((put(cell, cell, 8) for cell in range(3)), ())
    return graph((first, ("jump", 1)), (phis + (count,) + lower, ("branch", 9, 1, 2)), (stores, ("exit",)), registers=10)


class MeetingsTest(unittest.TestCase):
    def apart(self, first, second, turns=(), threads=2):
        """Run a graph in which thread 0 meets the others at different nodes."""
        value = graph(
            ((("special", 0, "tid"), ("word", 5, 4), ("binary", "add", 1, 0, 5)), ("branch", 0, 1, 2)),
            ((second,), ("jump", 3)), ((first,), ("jump", 3)),
            ((("store", TO_A, 0, 1),), ("exit",)),
        )
        return told(value, launch(1, threads), turns)

    def test_barriers_with_the_same_number(self):
        for turns in ([], [1, 0, 1, 0], [1] * 30):
            end, memory, races, steps = self.apart(("barrier", 5), ("barrier", 5), turns)
            self.assertEqual((end, memory[0][:2], races, steps), ("ok", (4, 5), [], 16))

    def test_barriers_with_different_numbers(self):
        end, memory, races, steps = self.apart(("barrier", 5), ("barrier", 6))
        self.assertEqual((end, memory[0][:2], races, steps), ("stuck", (0, 0), [], 10))

    def test_a_barrier_and_a_collect(self):
        end, memory, _, _ = self.apart(("barrier", 9), ("collect", "add", 1, 1, 9), threads=3)
        self.assertEqual((end, memory[0][:3]), ("ok", (4, 11, 11)))
        end, memory, _, _ = self.apart(("collect", "min", 1, 1, 9), ("barrier", 9), threads=3)
        self.assertEqual((end, memory[0][:3]), ("ok", (4, 5, 6)))

    def test_collects_with_different_operators(self):
        for turns in ([], [2, 1, 0], [2] * 30):
            row = (("collect", "add", 1, 1, 0), ("collect", "max", 1, 1, 0))
            self.assertEqual(self.apart(*row, turns, 4)[1][0][:4], (4, 7, 7, 7))
            self.assertEqual(self.apart(*row[::-1], turns, 4)[1][0][:4], (4, 18, 18, 18))

    def test_collects_with_different_registers(self):
        end, memory, _, _ = self.apart(("collect", "add", 1, 5, 3), ("collect", "add", 1, 0, 3), threads=3)
        self.assertEqual((end, memory[0][:3]), ("ok", (7, 7, 7)))

    def test_collects_with_different_numbers(self):
        self.assertEqual(self.apart(("collect", "add", 1, 1, 0), ("collect", "add", 1, 1, 1))[0], "stuck")

    def test_collect_of_all_threads_of_a_block(self):
        for op in FOLDING:
            value = one(
                ("special", 0, "tid"), ("load", 1, TO_B, 0), ("collect", op, 2, 1, 50), ("special", 3, "bid"),
                ("special", 4, "dim"), ("binary", "mul", 3, 3, 4), ("binary", "add", 3, 3, 0), ("store", TO_A, 3, 2),
            )
            end, memory, _, _ = told(value, launch(2, 3, b=(6, -3, 12)))
            self.assertEqual((end, memory[0][:6]), ("ok", (fold(op, (6, -3, 12)),) * 6))

    def test_stuck_where_one_has_ended(self):
        value = graph(((("special", 0, "tid"),), ("branch", 0, 1, 2)), ((("barrier", 0),), ("exit",)), NODE)
        self.assertEqual(told(value, launch(1, 2))[::3], ("stuck", 6))
        self.assertEqual(told(value, launch(2, 3))[::3], ("stuck", 18))

    def test_threads_pass_with_the_last_ones_step(self):
        # Behind the barrier only the exit is left: 2 steps for each thread.
        for turns in ([], [2, 1, 0], [0, 1, 0, 1, 0, 1]):
            self.assertEqual(told(one(("barrier", 0)), launch(1, 3), turns)[::3], ("ok", 6))

    def test_words_that_came_before_are_not_kept(self):
        value = graph(
            ((("word", 0, 2), ("word", 1, 1), ("special", 2, "tid")), ("jump", 1)),
            ((("collect", "add", 2, 2, 1), ("binary", "sub", 0, 0, 1)), ("branch", 0, 1, 2)),
            ((("special", 3, "tid"), ("store", TO_A, 3, 2)), ("exit",)),
        )
        self.assertEqual(told(value, launch(1, 3), [1, 2])[1][0][:3], (9, 9, 9))


class MostTest(unittest.TestCase):
    def test_no_steps(self):
        value = one(("word", 1, 1), *put(0, 1))
        self.assertEqual(told(value, most=0), ("fuel", ((0,) * 8, (0,) * 8), [], 0))

    def test_as_many_as_are_needed_and_one_less(self):
        value = one(("word", 1, 1), *put(0, 1))
        self.assertEqual(told(value, most=4)[::3], ("ok", 4))
        self.assertEqual(told(value, most=3), ("fuel", ((1,) + (0,) * 7, (0,) * 8), [], 3))
        self.assertEqual(told(value, most=2), ("fuel", ((0,) * 8, (0,) * 8), [], 2))

    def test_for_each_thread(self):
        value = one(("barrier", 1), ("word", 0, 1))
        for start in (launch(1, 3), launch(4, 8)):
            many = start[0] * start[1]
            self.assertEqual(told(value, start, most=3)[::3], ("ok", 3 * many))
            self.assertEqual(told(value, start, [1] * 100, most=2)[0], "fuel")

    def test_an_endless_graph(self):
        value = graph(((), ("jump", 1)), ((), ("jump", 1)))
        for most in (1, 7, 1000):
            self.assertEqual(told(value, most=most)[::3], ("fuel", most))

    def test_many_steps(self):
        value = graph(
            ((("word", 0, 2000), ("word", 1, 1)), ("jump", 1)),
            ((("binary", "sub", 0, 0, 1),), ("branch", 0, 1, 2)), NODE,
        )
        self.assertEqual(told(value, most=4004)[::3], ("ok", 4004))
        self.assertEqual(told(value, most=4003)[::3], ("fuel", 4003))


class TurnsAndRacesTest(unittest.TestCase):
    RACING = one(("word", 1, 3), ("load", 2, TO_A, 1), ("store", TO_A, 1, 1))

    def test_turns(self):
        value = one(("special", 0, "tid"), ("store", TO_A, 5, 0))
        for turns, word in (([], 2), ([2, 2, 2], 1), ([-1] * 6, 0), ([1, 1, 1, 1, 1], 0), ([3, 301, -1], 2)):
            self.assertEqual(told(value, launch(1, 3), turns)[1][0][0], word)

    def test_races_have_the_numbers_of_the_steps(self):
        self.assertEqual(told(self.RACING, launch(1, 2))[2], [(store_of(A, 3, 0, 2), load_of(A, 3, 1, 5))])
        races = told(self.RACING, launch(1, 2), [1, 1, 0, 0, 0, 1])[2]
        self.assertEqual(races, [(load_of(A, 3, 1, 1), store_of(A, 3, 0, 4))])

    def test_races_of_blocks_and_phases(self):
        value = one(("special", 0, "bid"), ("barrier", 0), ("store", TO_A, 5, 0))
        self.assertEqual(told(value, launch(2, 1))[2], [(store_of(A, 0, 0, 2), store_of(A, 0, 1, 6))])
        value = graph(
            ((("special", 0, "tid"),), ("branch", 0, 1, 2)),
            ((("barrier", 0), ("store", TO_A, 5, 0)), ("exit",)), ((("store", TO_A, 5, 0), ("barrier", 0)), ("exit",)),
        )
        self.assertEqual(told(value, launch(1, 2))[2], [])

    def test_shared_arrays(self):
        value = one(("special", 0, "tid"), ("store", TO_T, 5, 0))
        space = ("shared", 1, 1)
        self.assertEqual(told(value, launch(2, 2), [3, 2, 1, 1])[2][1][0][0], space)
        self.assertEqual(told(value, launch(3, 1))[2], [])

    def test_kinds_of_values(self):
        result = told(self.RACING, launch(1, 2))
        self.assertIs(type(result), tuple)
        self.assertEqual([type(value) for value in result], [str, tuple, list, int])

    def test_arguments_stay_and_results_share_nothing(self):
        turns, start = [1, 2, -3], launch(1, 2)
        before = copy.deepcopy((self.RACING, start, turns))
        first = run_graph(self.RACING, start, turns, 50)
        self.assertEqual((self.RACING, start, turns), before)
        first[2].clear()
        self.assertEqual(len(run_graph(self.RACING, start, turns, 50)[2]), 1)


class WrittenTwiceTest(unittest.TestCase):
    """The same runs as by an interpreter that the tests have of their own."""

    def test_random_graphs(self):
        ends = {}
        for seed in range(400):
            value, start = random_graph(seed, seed % 4 > 0), random_launch(seed)
            for each in (value, in_form(value)):
                for turns in ([], random_turns(seed, 200)):
                    result = run_graph(each, start, turns, 120)
                    self.assertEqual(result, slow_run_graph(each, start, turns, 120), seed)
                    key = (result[0], len(result[2]) > 0)
                    ends[key] = ends.get(key, 0) + 1
        for end in ("ok", "fuel", "stuck"):
            for raced in (False, True):
                self.assertGreater(ends.get((end, raced), 0), 3, (ends, end, raced))


if __name__ == "__main__":
    unittest.main()
