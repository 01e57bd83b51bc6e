"""Points 27 and 28: the states of lanes, their requests, and the states behind them."""

import copy
import unittest

from drawloom.lanes import behind, first_lane, request
from drawloom.words import BINARY, FOLDING, UNARY, binary, unary
from tests.randoms import random_code, random_launch
from tests.short import launch
from tests.shortcode import EACH, EXIT, NONE, TO_A, TO_B, TO_S, TO_T, code, state

WHOLE = code(*EACH, local=2)
# The words of all registers and local cells of a state.
WORDS = (-3, 1, 20, 4, 0, 6, 50, 7)
CELLS = (9, -8)
START = launch(2, 4, n=11)


def at_word(word):
    """Return the index of an instruction of the whole code."""
    return [row[0] for row in EACH].index(word)


def one(row, local=2):
    """Return code of which the instruction at the index 1 is a row."""
    return code(EXIT, row, EXIT, EXIT, local=local)


def before(at=1):
    return (at, WORDS, CELLS)


def changed(number, word):
    return WORDS[:number] + (word,) + WORDS[number + 1:]


class FirstLaneTest(unittest.TestCase):
    def test_words_are_0(self):
        for local in (0, 1, 2, 64):
            self.assertEqual(first_lane(code(EXIT, local=local)), (0, (0,) * 8, (0,) * local))


class RequestTest(unittest.TestCase):
    def asked(self, row):
        return request(one(row), before())

    def test_load(self):
        for array in (TO_A, TO_B, TO_S, TO_T):
            self.assertEqual(self.asked(("load", 5, array, 2)), ("load", array, 20))
        self.assertEqual(self.asked(("load", 0, TO_A, 0)), ("load", TO_A, -3))

    def test_store(self):
        self.assertEqual(self.asked(("store", TO_T, 3, 6)), ("store", TO_T, 4, 50))
        self.assertEqual(self.asked(("store", TO_A, 0, 0)), ("store", TO_A, -3, -3))

    def test_atomic(self):
        for op in FOLDING:
            self.assertEqual(self.asked(("atomic", op, TO_S, 7, 0)), ("atomic", op, TO_S, 7, -3))

    def test_barrier(self):
        for number in (0, 5, 99):
            self.assertEqual(self.asked(("barrier", number)), ("barrier", number))

    def test_collect(self):
        for op in FOLDING:
            self.assertEqual(self.asked(("collect", op, 1, 2, 9)), ("collect", op, 20, 9))

    def test_exit(self):
        self.assertEqual(self.asked(EXIT), EXIT)
        self.assertEqual(request(one(EXIT), before(3)), EXIT)

    def test_all_others(self):
        for row in (
            ("word", 0, 5), ("param", 1, 1), ("special", 2, "tid"), ("copy", 3, 0), ("unary", "neg", 4, 3),
            ("binary", "add", 5, 4, 3), ("get", 0, 1), ("keep", 0, 7), ("branch", 1, 0, 3), ("jump", 2),
        ):
            self.assertEqual(self.asked(row), NONE, row)

    def test_by_the_index_of_the_state(self):
        for at, row in enumerate(EACH):
            asked = request(WHOLE, before(at))
            self.assertEqual(asked[0], row[0] if row[0] in (
                "load", "store", "atomic", "barrier", "collect", "exit") else "none")


class BehindTest(unittest.TestCase):
    def behind(self, row, word=77, thread=6, start=START):
        value = one(row)
        result = behind(value, start, thread, before(), word)
        self.assertEqual([type(part) for part in result], [int, tuple, tuple])
        return result

    def writes(self, row, number, word):
        self.assertEqual(self.behind(row), (2, changed(number, word), CELLS), row)

    def test_word(self):
        for number in range(8):
            self.writes(("word", number, -5), number, -5)

    def test_param(self):
        self.writes(("param", 3, 1), 3, 11)
        self.assertEqual(self.behind(("param", 3, 1), start=launch(n=-4)), (2, changed(3, -4), CELLS))

    def test_special(self):
        for thread, words in ((0, (0, 0, 4, 2)), (3, (3, 0, 4, 2)), (4, (0, 1, 4, 2)), (7, (3, 1, 4, 2))):
            for special, word in zip(("tid", "bid", "dim", "grid"), words):
                result = self.behind(("special", 5, special), thread=thread)
                self.assertEqual(result, (2, changed(5, word), CELLS))

    def test_copy(self):
        self.writes(("copy", 4, 6), 4, 50)
        self.writes(("copy", 4, 4), 4, 0)

    def test_unary(self):
        for op in UNARY:
            for number, word in enumerate(WORDS):
                self.writes(("unary", op, 3, number), 3, unary(op, word))

    def test_binary(self):
        for op in BINARY:
            self.writes(("binary", op, 0, 0, 5), 0, binary(op, -3, 6))
            self.writes(("binary", op, 7, 5, 0), 7, binary(op, 6, -3))
            self.writes(("binary", op, 1, 6, 6), 1, binary(op, 50, 50))

    def test_words_wrap_around(self):
        full = (1, (2 ** 31 - 1,) * 8, CELLS)
        result = behind(one(("binary", "add", 0, 1, 2)), START, 0, full, 0)
        self.assertEqual(result[1][:2], (-2, 2 ** 31 - 1))

    def test_get_and_keep(self):
        self.writes(("get", 2, 0), 2, 9)
        self.writes(("get", 7, 1), 7, -8)
        self.assertEqual(self.behind(("keep", 0, 6)), (2, WORDS, (50, -8)))
        self.assertEqual(self.behind(("keep", 1, 0)), (2, WORDS, (9, -3)))

    def test_load_and_collect_write_the_word(self):
        for word in (0, 1, -9, 2 ** 31 - 1, -2 ** 31):
            self.assertEqual(self.behind(("load", 6, TO_S, 2), word), (2, changed(6, word), CELLS))
            self.assertEqual(self.behind(("collect", "max", 2, 6, 8), word), (2, changed(2, word), CELLS))

    def test_store_atomic_and_barrier_write_nothing(self):
        for row in (("store", TO_A, 1, 2), ("atomic", "add", TO_A, 1, 2), ("barrier", 4)):
            self.assertEqual(self.behind(row), (2, WORDS, CELLS))

    def test_the_word_plays_no_part_for_others(self):
        for at, row in enumerate(EACH):
            results = {behind(WHOLE, START, 5, before(at), word) for word in (0, 1, -7, 1000)}
            self.assertEqual(len(results), 4 if row[0] in ("load", "collect") else 1, row)

    def test_jump(self):
        for index in range(4):
            self.assertEqual(self.behind(("jump", index)), (index, WORDS, CELLS))

    def test_branch(self):
        for index in range(4):
            for join in range(5):
                self.assertEqual(self.behind(("branch", 4, index, join)), (2, WORDS, CELLS))
                for number in (0, 1, 2, 6):
                    self.assertEqual(self.behind(("branch", number, index, join)), (index, WORDS, CELLS))

    def test_exit(self):
        for word in (0, 5):
            self.assertEqual(self.behind(EXIT, word), before())
            self.assertEqual(behind(one(EXIT), START, 1, before(3), word), before(3))

    def test_several_in_a_row(self):
        value = code(
            ("word", 0, 3), ("special", 1, "tid"), ("binary", "add", 2, 2, 0), ("load", 3, TO_A, 2), ("keep", 1, 3),
            ("binary", "sub", 0, 0, 1), ("branch", 0, 2, 7), ("get", 7, 1), ("collect", "add", 6, 7, 0), EXIT, local=2,
        )
        lane = first_lane(value)
        words = [0] * 3 + [40] + [0] * 4 + [41] + [0] * 4 + [42] + [0] * 4 + [99] + [0] * 3
        asked = []
        states = []
        for word in words:
            asked.append(request(value, lane))
            lane = behind(value, START, 5, lane, word)
            states.append(lane)
        self.assertEqual(states[0], state(1, 3, cells=(0, 0)))
        self.assertEqual(states[3], state(4, 3, 1, 3, 40, cells=(0, 0)))
        self.assertEqual(states[6], state(2, 2, 1, 3, 40, cells=(0, 40)))
        self.assertEqual(lane, state(9, 0, 1, 6, 42, 0, 0, 99, 42, cells=(0, 42)))
        self.assertEqual([row for row in asked if row != NONE], [
            ("load", TO_A, 3), ("load", TO_A, 5), ("load", TO_A, 6), ("collect", "add", 42, 0)] + [EXIT] * 3)


class OwnersTest(unittest.TestCase):
    def test_arguments_stay_as_they_are(self):
        for seed in range(100):
            value, start = random_code(seed, True), random_launch(seed)
            lane = first_lane(value)
            kept = copy.deepcopy((value, start))
            for word in range(20):
                old = copy.deepcopy(lane)
                self.assertEqual(request(value, lane), request(value, old))
                new = behind(value, start, 0, lane, word)
                self.assertEqual(lane, old)
                lane = new
            self.assertEqual((value, start), kept)


if __name__ == "__main__":
    unittest.main()
