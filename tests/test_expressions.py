"""Points 3 and 7: what expressions are worth in a kernel, and which loads they do."""

import unittest

from drawloom.meaning import run
from drawloom.words import BINARY, UNARY, binary, unary
from tests.samples import GREATEST, LEAST, deep_expressions
from tests.short import (
    A, B, BID, DIM, GRID, TID, atomic, bi, kernel, launch, let, load, load_of, only, pick, put, store_of, un, when,
    world_after,
)

PAIRS = ((7, 2), (-7, 2), (2, 7), (5, 0), (0, 5), (LEAST, -1), (GREATEST, 1), (-3, 33), (4, 4))


def stored(expression, start=None):
    """Return the word that a kernel stores for an expression."""
    body = (let("x", 11), let("y", -4), put("b", 0, expression))
    end, memory, races, steps = run(kernel(*body), start or launch(a=(10, 20, 30)), [])
    assert (end, races, steps) == ("ok", [], 3)
    return memory[1][0]


class WordsTest(unittest.TestCase):
    def test_words(self):
        for number in (0, 1, -1, 7, LEAST, GREATEST):
            self.assertEqual(stored(number), number)

    def test_names(self):
        self.assertEqual(stored("x"), 11)
        self.assertEqual(stored("y"), -4)
        self.assertEqual(stored("n"), 5)
        self.assertEqual(stored("n", launch(n=LEAST)), LEAST)

    def test_specials_of_each_thread(self):
        for special in (TID, BID, DIM, GRID):
            at = bi("add", bi("mul", BID, DIM), TID)
            end, memory, races, _ = run(kernel(put("a", at, special)), launch(3, 4, a=(0,) * 12), [])
            self.assertEqual((end, races), ("ok", []))
            expected = {
                "tid": [0, 1, 2, 3] * 3, "bid": [0] * 4 + [1] * 4 + [2] * 4, "dim": [4] * 12, "grid": [3] * 12,
            }[special[1]]
            self.assertEqual(memory[0], tuple(expected))


class OperatorsTest(unittest.TestCase):
    def test_each_unary(self):
        for op in UNARY:
            for a, _ in PAIRS:
                self.assertEqual(stored(un(op, a)), unary(op, a), (op, a))

    def test_each_binary(self):
        for op in BINARY:
            for a, b in PAIRS:
                self.assertEqual(stored(bi(op, a, b)), binary(op, a, b), (op, a, b))

    def test_spelled_out(self):
        self.assertEqual(stored(bi("sub", 2, 5)), -3)
        self.assertEqual(stored(bi("div", -7, 2)), -3)
        self.assertEqual(stored(bi("add", GREATEST, 1)), LEAST)
        self.assertEqual(stored(un("not", 5)), -6)
        self.assertEqual(stored(un("zero", 5)), 0)
        self.assertEqual(stored(un("neg", LEAST)), LEAST)

    def test_pick(self):
        for condition in (1, -1, 2, LEAST, GREATEST):
            self.assertEqual(stored(pick(condition, "x", "y")), 11)
        self.assertEqual(stored(pick(0, "x", "y")), -4)

    def test_nested_ones(self):
        self.assertEqual(stored(bi("sub", bi("mul", "x", "y"), un("neg", bi("add", "n", 2)))), -37)
        self.assertEqual(stored(pick(bi("lt", "x", "y"), 1, pick(bi("lt", "y", "x"), 2, 3))), 2)
        self.assertEqual(stored(load("a", load("a", bi("sub", 10, load("a", 0))))), 0)
        self.assertEqual(stored(un("zero", un("zero", un("not", "x")))), 1)

    def test_the_deepest_ones(self):
        for expression in deep_expressions(10):
            self.assertIsInstance(stored(expression), int)
        deep = 1
        for _ in range(9):
            deep = bi("add", deep, 1)
        self.assertEqual(stored(deep), 10)


class LoadsTest(unittest.TestCase):
    def test_cells_that_are_there(self):
        for at, number in enumerate((10, 20, 30)):
            self.assertEqual(stored(load("a", at)), number)

    def test_cells_that_are_not_there_are_0(self):
        for at in (-1, -2, -3, -4, 3, 4, 100, LEAST, GREATEST):
            self.assertEqual(stored(load("a", at)), 0)
        self.assertEqual(stored(load("a", 0), launch(a=())), 0)
        for at in (-1, -4, 4, 5):
            self.assertEqual(stored(load("s", at)), 0)

    def test_changes_of_cells_that_are_not_there_have_no_effect(self):
        for at in (-1, -2, 2, 3, LEAST, GREATEST):
            for array in ("a", "t"):
                for change in (put(array, at, 9), atomic("add", array, at, 9), atomic("and", array, at, 0)):
                    body = (put("t", 0, 1), put("t", 1, 2), change, put("b", 0, load("t", 0)), put("b", 1, load("t", 1)))
                    end, memory, races, steps = run(kernel(*body), launch(a=(5, 6), b=(0, 0)), [])
                    self.assertEqual((end, memory, races, steps), ("ok", ((5, 6), (1, 2)), [], 5))

    def test_several_parameters_that_are_one_buffer(self):
        body = (put("a", 0, 3), put("b", 1, load("b", 0)), atomic("add", "a", 1, load("a", 1)))
        end, memory, races, _ = run(kernel(*body), (1, 1, (1, 0, 1), ((7, 8), (0, 0))), [])
        self.assertEqual((end, memory, races), ("ok", ((7, 8), (3, 6)), []))


class OrderTest(unittest.TestCase):
    """Thread 0 stores into some cells; then a step of thread 1 tells a race for each access."""

    def told(self, *statements, cells=6):
        stores = [put("a", at, 0) for at in range(cells)]
        body = (when(bi("eq", TID, 0), stores, statements),)
        threads = [0] * (cells + 1) + [1] * (1 + len(statements))
        world = world_after(kernel(*body), launch(1, 2), *threads)
        rows = []
        for earlier, later in world.races():
            self.assertEqual(earlier, store_of(A, later[1], 0, later[1] + 1))
            self.assertEqual(later[2], 1)
            self.assertEqual(later[0], A)
            self.assertEqual(later[4], cells + 2)
            rows.append((later[1], later[3]))
        return rows

    def loads(self, *statements):
        return [cell for cell, kind in self.told(*statements) if kind == "load"]

    def test_parts_from_left_to_right(self):
        for op in BINARY:
            self.assertEqual(self.loads(let("x", bi(op, load("a", 2), load("a", 1)))), [2, 1])
        self.assertEqual(self.loads(let("x", bi("add", bi("sub", load("a", 5), load("a", 0)), load("a", 3)))), [5, 0, 3])
        self.assertEqual(self.loads(let("x", un("neg", load("a", 4)))), [4])

    def test_the_index_of_a_load_comes_first(self):
        self.assertEqual(self.loads(let("x", load("a", bi("add", load("a", 3), 1)))), [3, 1])

    def test_all_parts_of_a_pick(self):
        for condition in (0, 1):
            expression = pick(bi("or", load("a", 2), condition), load("a", 1), load("a", 0))
            self.assertEqual(self.loads(let("x", expression)), [2, 1, 0])

    def test_both_parts_of_and_and_or(self):
        for op in ("and", "or", "mul"):
            self.assertEqual(self.loads(let("x", bi(op, load("a", 1), load("a", 2)))), [1, 2])

    def test_the_index_before_the_expression_and_the_change_last(self):
        index = bi("add", load("a", 4), 5)
        self.assertEqual(self.told(put("a", index, load("a", 1))), [(4, "load"), (1, "load"), (5, "store")])
        for op in ("add", "min", "max", "and", "or", "xor"):
            row = atomic(op, "a", index, load("a", 1))
            self.assertEqual(self.told(row), [(4, "load"), (1, "load"), (5, op)])

    def test_conditions_are_accesses(self):
        self.assertEqual(self.loads(when(load("a", 3))), [3])
        self.assertEqual(self.loads(("while", load("a", 2), ())), [2])

    def test_cells_that_are_not_there_are_no_accesses(self):
        for at in (-1, 8, 9, LEAST, GREATEST):
            self.assertEqual(self.told(put("a", at, load("a", at))), [])
            self.assertEqual(self.told(atomic("add", "a", at, load("a", at))), [])

    def test_a_word_is_stored_that_was_loaded_before(self):
        body = (put("a", 0, bi("add", load("a", 0), 1)), atomic("add", "a", 0, load("a", 0)))
        end, memory, races, _ = run(kernel(*body), launch(a=(4,)), [])
        self.assertEqual((end, memory[0], races), ("ok", (10,), []))

    def test_loads_of_other_arrays(self):
        body = (only(0, put("b", 0, 1)), only(1, let("x", load("b", 0))))
        world = world_after(kernel(*body), launch(1, 2), 0, 0, 1, 1, 1)
        self.assertEqual(world.races(), [(store_of(B, 0, 0, 1), load_of(B, 0, 1, 4))])


if __name__ == "__main__":
    unittest.main()
