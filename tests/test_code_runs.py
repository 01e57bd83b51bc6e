"""Point 24: runs of code."""

import copy
import unittest

from drawloom.codes import run_code
from drawloom.words import BINARY, FOLDING, UNARY, binary, fold, unary
from tests.randoms import random_code, random_launch, random_turns
from tests.reference import slow_run_code
from tests.short import A, B, launch, load_of, store_of
from tests.shortcode import EXIT, TO_A, TO_B, TO_S, TO_T, code, put

# Puts the number of a thread into the register 7.
NUMBER = (
    ("special", 7, "bid"), ("special", 6, "dim"), ("binary", "mul", 7, 7, 6), ("special", 6, "tid"),
    ("binary", "add", 7, 7, 6),
)


def told(value, start=None, turns=(), most=100):
    return run_code(value, start or launch(), list(turns), most)


class InstructionsTest(unittest.TestCase):
    def stored(self, *rows, start=None, local=0):
        """Return the word that is stored of the register 0 behind some instructions."""
        end, memory, races, steps = told(code(*rows, *put(0, 0), EXIT, local=local), start)
        self.assertEqual((end, races, steps), ("ok", [], len(rows) + 3))
        return memory[0][0]

    def test_registers_and_local_cells_are_0_at_first(self):
        for number in range(1, 8):
            row = ("binary", "add", 0, 0, number)
            self.assertEqual(self.stored(row, start=launch(a=(9,))), 0)
        for cell in range(3):
            self.assertEqual(self.stored(("word", 0, 4), ("get", 0, cell), start=launch(a=(9,)), local=3), 0)

    def test_word(self):
        for word in (3, -1, 2 ** 31 - 1, -2 ** 31):
            self.assertEqual(self.stored(("word", 0, word)), word)

    def test_param(self):
        self.assertEqual(self.stored(("param", 0, 1), start=launch(n=-9)), -9)

    def test_special(self):
        for special, words in (
            ("tid", (0, 1, 2, 0, 1, 2)), ("bid", (0, 0, 0, 1, 1, 1)), ("dim", (3,) * 6), ("grid", (2,) * 6),
        ):
            value = code(("special", 0, special), *NUMBER, ("store", TO_A, 7, 0), EXIT)
            self.assertEqual(told(value, launch(2, 3))[1][0][:6], words)

    def test_copy(self):
        self.assertEqual(self.stored(("word", 1, 4), ("copy", 0, 1), ("word", 1, 5)), 4)

    def test_unary(self):
        for op in UNARY:
            for word in (0, 5, -2 ** 31):
                self.assertEqual(self.stored(("word", 1, word), ("unary", op, 0, 1)), unary(op, word))

    def test_binary(self):
        for op in BINARY:
            rows = (("word", 1, -7), ("word", 2, 3), ("binary", op, 0, 1, 2))
            self.assertEqual(self.stored(*rows), binary(op, -7, 3))
        self.assertEqual(self.stored(("word", 0, 9), ("binary", "sub", 0, 0, 1)), 9)

    def test_get_and_keep(self):
        rows = (("word", 1, 4), ("keep", 2, 1), ("word", 1, 5), ("keep", 0, 1), ("word", 1, 6), ("get", 0, 2))
        self.assertEqual(self.stored(*rows, local=3), 4)
        self.assertEqual(self.stored(*rows, ("get", 0, 0), local=3), 5)
        self.assertEqual(self.stored(*rows, ("get", 0, 1), local=3), 0)
        self.assertEqual(self.stored(("word", 7, 8), ("keep", 63, 7), ("get", 0, 63), local=64), 8)

    def test_local_cells_are_each_threads_own(self):
        rows = (*NUMBER, ("get", 1, 0), ("keep", 0, 7), ("barrier", 0), ("get", 0, 0), ("binary", "add", 0, 0, 1))
        value = code(*rows, ("store", TO_A, 7, 0), EXIT, local=1)
        self.assertEqual(told(value, launch(2, 4))[:3], ("ok", (tuple(range(8)), (0,) * 8), []))

    def test_load(self):
        start = launch(a=(4, 5), b=(6, 7))
        for array, cell, word in (
            (TO_A, 1, 5), (TO_B, 0, 6), (TO_A, 2, 0), (TO_A, -1, 0), (TO_S, 3, 0), (TO_T, 2, 0), (TO_B, -2, 0),
        ):
            self.assertEqual(self.stored(("word", 0, 8), ("word", 1, cell), ("load", 0, array, 1), start=start), word)

    def test_store(self):
        value = code(("word", 0, 1), ("word", 1, 8), ("store", TO_B, 0, 1), ("store", TO_T, 0, 1), ("load", 2, TO_T, 0),
                     ("store", TO_A, 0, 2), EXIT)
        self.assertEqual(told(value, launch(a=(1, 2), b=(3, 4)))[:2], ("ok", ((1, 8), (3, 8))))

    def test_where_no_cell_is(self):
        for cell in (-1, 2, 3, 2 ** 31 - 1, -2 ** 31):
            value = code(("word", 0, cell), ("store", TO_A, 0, 0), ("atomic", "add", TO_A, 0, 0),
                         ("atomic", "or", TO_T, 0, 0), ("store", TO_T, 0, 0), ("load", 1, TO_A, 0), EXIT)
            self.assertEqual(told(value, launch(2, 2, a=(1, 2))), ("ok", ((1, 2), (0,) * 8), [], 28))

    def test_atomic(self):
        for op in FOLDING:
            value = code(("word", 0, 1), ("word", 1, 12), ("atomic", op, TO_A, 0, 1), EXIT)
            self.assertEqual(told(value, launch(a=(9, 10)))[1][0], (9, binary(op, 10, 12)))

    def test_a_step_for_each_instruction(self):
        self.assertEqual(told(code(EXIT))[3], 1)
        self.assertEqual(told(code(("word", 0, 1), EXIT), launch(2, 3))[3], 12)
        self.assertEqual(told(code(("jump", 1), ("jump", 2), EXIT))[3], 3)
        self.assertEqual(told(code(("branch", 0, 0, 0), ("get", 0, 0), ("keep", 0, 0), EXIT, local=1))[3], 4)
        self.assertEqual(told(code(("barrier", 0), ("collect", "add", 0, 0, 1), EXIT))[3], 3)


class WaysTest(unittest.TestCase):
    def test_jump(self):
        value = code(("word", 0, 3), ("jump", 4), ("word", 0, 4), ("jump", 6), ("jump", 2), ("word", 0, 5), *put(0, 0), EXIT)
        self.assertEqual(told(value)[1][0][0], 4)
        self.assertEqual(told(value)[3], 8)

    def branching(self, word, join):
        return code(("word", 0, word), ("branch", 0, 5, join), ("word", 1, 2), *put(0, 1)[:1], ("jump", 7),
                    ("word", 1, 1), *put(0, 1)[:1], ("store", TO_A, 6, 1), EXIT)

    def test_branch(self):
        for word, stored, steps in ((0, 2, 7), (1, 1, 6), (-1, 1, 6), (2, 1, 6), (2 ** 31 - 1, 1, 6), (-2 ** 31, 1, 6)):
            end, memory, _, many = told(self.branching(word, 7))
            self.assertEqual((end, memory[0][0], many), ("ok", stored, steps))

    def test_the_join_has_no_influence(self):
        for word in (0, 1):
            results = [told(self.branching(word, join), launch(2, 2), [3, 1, 4]) for join in range(10)]
            self.assertEqual(results, [results[0]] * 10)

    def test_a_branch_to_what_is_behind_it(self):
        for word in (0, 1):
            self.assertEqual(told(code(("word", 0, word), ("branch", 0, 2, 2), EXIT))[::3], ("ok", 3))

    def test_code_that_leads_back(self):
        value = code(("word", 0, 4), ("word", 1, 1), ("binary", "add", 2, 2, 0), ("binary", "sub", 0, 0, 1),
                     ("branch", 0, 2, 5), *put(1, 2), EXIT)
        self.assertEqual(told(value)[1][0][:2], (0, 10))
        self.assertEqual(told(value)[3], 2 + 3 * 4 + 3)

    def test_code_that_leads_back_to_its_begin(self):
        value = code(("binary", "add", 0, 0, 1), ("branch", 1, 4, 4), ("word", 1, 1), ("jump", 0), *put(0, 0), EXIT)
        self.assertEqual(told(value)[1][0][0], 1)

    def test_threads_part(self):
        value = code(*NUMBER, ("branch", 7, 9, 9), ("word", 0, 5), *put(0, 0, 1), ("store", TO_B, 7, 7), EXIT)
        self.assertEqual(told(value, launch(2, 2))[1], ((5,) + (0,) * 7, (0, 1, 2, 3, 0, 0, 0, 0)))


class MeetingsTest(unittest.TestCase):
    def test_barrier(self):
        value = code(("special", 0, "tid"), ("store", TO_S, 0, 0), ("barrier", 3), ("word", 1, 3),
                     ("binary", "sub", 1, 1, 0), ("load", 2, TO_S, 1), ("store", TO_A, 0, 2), EXIT)
        for turns in ([], [-1] * 50, [2, 1, 0, 3, 5]):
            self.assertEqual(told(value, launch(1, 4), turns)[:3], ("ok", ((3, 2, 1, 0) + (0,) * 4, (0,) * 8), []))

    def test_collect(self):
        for op in FOLDING:
            value = code(*NUMBER, ("load", 1, TO_B, 7), ("collect", op, 2, 1, 50), ("store", TO_A, 7, 2), EXIT)
            memory = told(value, launch(2, 3, b=(6, -3, 12, 1, 1, 4)))[1]
            self.assertEqual(memory[0][:6], (fold(op, (6, -3, 12)),) * 3 + (fold(op, (1, 1, 4)),) * 3)

    def test_different_indices_with_one_number(self):
        # Threads 0 and 2 come to one collect, 1 to another one, 3 to a barrier.
        for op, words in (("add", (16, 16, 16, 0)), ("min", (3, 8, 3, 0))):
            value = code(
                *NUMBER, ("load", 1, TO_B, 7), ("word", 2, 1), ("binary", "and", 3, 7, 2), ("branch", 3, 11, 18),
                ("collect", op, 4, 1, 9), ("jump", 17), ("word", 2, 3), ("binary", "eq", 3, 7, 2), ("branch", 3, 16, 17),
                ("collect", "add", 4, 1, 9), ("jump", 17), ("barrier", 9), ("store", TO_A, 7, 4), EXIT,
            )
            for turns in ([], [-1] * 60, [3, 1, 4, 1, 5, 9, 2, 6]):
                result = told(value, launch(1, 4, b=(3, 8, 5, 100)), turns)
                self.assertEqual((result[0], result[1][0][:4], result[2]), ("ok", words, []))

    def test_barriers_with_one_number_at_different_indices(self):
        value = code(("special", 0, "tid"), ("store", TO_S, 0, 0), ("branch", 0, 5, 6), ("barrier", 7), ("jump", 6),
                     ("barrier", 7), ("word", 1, 1), ("binary", "xor", 1, 1, 0), ("load", 2, TO_S, 1),
                     ("store", TO_A, 0, 2), EXIT)
        for turns in ([], [1] * 30):
            self.assertEqual(told(value, launch(1, 2), turns)[:3], ("ok", ((1, 0) + (0,) * 6, (0,) * 8), []))

    def test_stuck_at_different_numbers(self):
        value = code(("special", 0, "tid"), ("branch", 0, 3, 4), ("barrier", 1), ("barrier", 2), EXIT)
        self.assertEqual(told(value, launch(1, 2))[::3], ("stuck", 6))

    def test_stuck_where_one_has_ended(self):
        value = code(("special", 0, "tid"), ("branch", 0, 3, 4), ("barrier", 1), EXIT)
        self.assertEqual(told(value, launch(2, 3))[::3], ("stuck", 18))

    def test_threads_pass_with_the_last_ones_step(self):
        for turns in ([], [2, 1, 0], [0, 1, 0, 1, 0, 1]):
            self.assertEqual(told(code(("barrier", 0), EXIT), launch(1, 3), turns)[::3], ("ok", 6))


class MostTest(unittest.TestCase):
    VALUE = code(("word", 1, 1), *put(0, 1), EXIT)
    NOTHING = ((0,) * 8, (0,) * 8)

    def test_no_steps(self):
        self.assertEqual(told(self.VALUE, most=0), ("fuel", self.NOTHING, [], 0))
        self.assertEqual(told(code(EXIT), launch(4, 8), most=0), ("fuel", self.NOTHING, [], 0))

    def test_as_many_as_are_needed_and_one_less(self):
        self.assertEqual(told(self.VALUE, most=4)[::3], ("ok", 4))
        self.assertEqual(told(self.VALUE, most=3), ("fuel", ((1,) + (0,) * 7, (0,) * 8), [], 3))
        self.assertEqual(told(self.VALUE, most=2), ("fuel", self.NOTHING, [], 2))

    def test_for_each_thread(self):
        value = code(("barrier", 1), ("word", 0, 1), EXIT)
        for start in (launch(1, 3), launch(4, 8)):
            self.assertEqual(told(value, start, most=3)[::3], ("ok", 3 * start[0] * start[1]))
            self.assertEqual(told(value, start, [1] * 100, most=2)[0], "fuel")

    def test_endless_code(self):
        for most in (1, 7, 1000):
            self.assertEqual(told(code(("jump", 0)), most=most)[::3], ("fuel", most))


class TurnsAndRacesTest(unittest.TestCase):
    RACING = code(("word", 1, 3), ("load", 2, TO_A, 1), ("store", TO_A, 1, 1), EXIT)

    def test_turns(self):
        value = code(("special", 0, "tid"), ("store", TO_A, 5, 0), EXIT)
        for turns, word in (([], 2), ([2, 2, 2], 1), ([-1] * 6, 0), ([1, 1, 1, 1, 1], 0), ([3, 301, -1], 2)):
            self.assertEqual(told(value, launch(1, 3), turns)[1][0][0], word)

    def test_races_have_the_numbers_of_the_steps(self):
        self.assertEqual(told(self.RACING, launch(1, 2))[2], [(store_of(A, 3, 0, 2), load_of(A, 3, 1, 5))])
        races = told(self.RACING, launch(1, 2), [1, 1, 0, 0, 0, 1])[2]
        self.assertEqual(races, [(load_of(A, 3, 1, 1), store_of(A, 3, 0, 4))])

    def test_each_kind_of_step_counts(self):
        value = code(("jump", 1), ("branch", 0, 0, 0), ("get", 0, 0), ("keep", 0, 0), ("store", TO_B, 0, 0), EXIT, local=1)
        races = told(value, launch(2, 1))[2]
        self.assertEqual(races, [(store_of(B, 0, 0, 4), store_of(B, 0, 1, 10))])

    def test_races_of_blocks_and_phases(self):
        value = code(("barrier", 0), ("store", TO_A, 5, 0), EXIT)
        self.assertEqual(told(value, launch(2, 1))[2], [(store_of(A, 0, 0, 1), store_of(A, 0, 1, 4))])
        # Thread 0 stores in front of the barrier, thread 1 behind it.
        value = code(("special", 0, "tid"), ("branch", 0, 5, 6), ("store", TO_A, 5, 0), ("barrier", 0), EXIT,
                     ("barrier", 0), ("store", TO_A, 5, 0), EXIT)
        self.assertEqual(told(value, launch(1, 2))[::2], ("ok", []))

    def test_kinds_of_values(self):
        result = told(self.RACING, launch(1, 2))
        self.assertIs(type(result), tuple)
        self.assertEqual([type(value) for value in result], [str, tuple, list, int])

    def test_arguments_stay_and_results_share_nothing(self):
        turns, start = [1, 2, -3], launch(1, 2)
        before = copy.deepcopy((self.RACING, start, turns))
        first = run_code(self.RACING, start, turns, 50)
        self.assertEqual((self.RACING, start, turns), before)
        first[2].clear()
        self.assertEqual(len(run_code(self.RACING, start, turns, 50)[2]), 1)


class WrittenTwiceTest(unittest.TestCase):
    """The same runs as by an interpreter that the tests have of their own."""

    def test_random_code(self):
        ends = {}
        for seed in range(700):
            value, start = random_code(seed, seed % 4 > 0), random_launch(seed)
            for turns in ([], random_turns(seed, 200)):
                result = run_code(value, start, turns, 70)
                self.assertEqual(result, slow_run_code(value, start, turns, 70), seed)
                key = (result[0], len(result[2]) > 0)
                ends[key] = ends.get(key, 0) + 1
        for end in ("ok", "fuel", "stuck"):
            self.assertGreater(ends.get((end, False), 0), 3, ends)
        for end in ("ok", "fuel"):
            self.assertGreater(ends.get((end, True), 0), 3, ends)


if __name__ == "__main__":
    unittest.main()
