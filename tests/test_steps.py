"""Point 7: each statement as a step, what is next behind it, and the end of a thread."""

import unittest

from drawloom.meaning import World, run
from tests.short import (
    BREAK, CONTINUE, RETURN, TID, assign, atomic, bi, kernel, launch, let, load, loop, only, pick, put, when,
)

LOWER = assign("n", bi("sub", "n", 1))
COUNT = assign("x", bi("add", "x", 1))


class StepsCase(unittest.TestCase):
    def ends(self, body, steps, cells, n=5, end="ok"):
        """Check the number of steps of one thread, and the first cells of the buffer a."""
        result = run(kernel(*body), launch(n=n), [])
        self.assertEqual(result[0], end)
        self.assertEqual(result[3], steps)
        self.assertEqual(result[1][0][:len(cells)], tuple(cells))
        self.assertEqual(result[2], [])


class EachStatementTest(StepsCase):
    def test_let_and_set(self):
        self.ends([let("x", 3), assign("x", bi("mul", "x", "x")), put("a", 0, "x")], 3, [9])

    def test_set_of_a_parameter(self):
        self.ends([assign("n", bi("add", "n", 1)), put("a", 0, "n")], 2, [6])

    def test_put(self):
        self.ends([put("a", 0, 4), put("a", 1, 5), put("a", 0, 6)], 3, [6, 5])

    def test_atomic(self):
        for op, word in (("add", 11), ("min", 5), ("max", 6), ("and", 4), ("or", 7), ("xor", 3)):
            self.ends([put("a", 0, 5), atomic(op, "a", 0, 6)], 2, [word])

    def test_a_variable_of_each_thread(self):
        body = (let("x", TID), assign("n", bi("add", "n", "x")), put("a", TID, "n"))
        for turns in ([], list(range(40)), [3] * 40):
            end, memory, races, steps = run(kernel(*body), launch(1, 4), turns)
            self.assertEqual((end, memory[0][:4], races, steps), ("ok", (5, 6, 7, 8), [], 12))

    def test_one_thread_at_a_time(self):
        world = World(kernel(put("a", 0, 1), put("a", 1, 2)), launch(a=(0, 0), b=()))
        for step, memory in ((0, (0, 0)), (1, (1, 0)), (2, (1, 2))):
            self.assertEqual(world.steps(), step)
            self.assertEqual(world.memory(), (memory, ()))
            self.assertEqual(world.end(), "ok" if step == 2 else "")
            self.assertEqual(world.ready(), [] if step == 2 else [0])
            if step < 2:
                world.step(0)


class EndTest(StepsCase):
    def test_a_kernel_without_statements(self):
        world = World(kernel(), launch(2, 3))
        self.assertEqual((world.end(), world.ready(), world.steps(), world.races()), ("ok", [], 0, []))
        self.assertEqual(run(kernel(), launch(2, 3), [1, 2, 3]), ("ok", ((0,) * 8, (0,) * 8), [], 0))

    def test_return(self):
        self.ends([put("a", 0, 1), RETURN, put("a", 0, 2)], 2, [1])
        self.ends([when(1, [RETURN]), put("a", 0, 2)], 2, [0])
        self.ends([when(0, [RETURN]), put("a", 0, 2)], 2, [2])

    def test_return_in_a_loop(self):
        self.ends([loop(1, put("a", 0, 1), loop(1, RETURN), put("a", 0, 2)), put("a", 0, 3)], 4, [1])

    def test_an_ended_thread_is_not_ready(self):
        world = World(kernel(when(bi("eq", TID, 1), [RETURN]), put("a", 0, 1)), launch(1, 3))
        world.step(1)
        self.assertEqual(world.ready(), [0, 1, 2])
        world.step(1)
        self.assertEqual(world.ready(), [0, 2])

    def test_the_end_is_a_part_of_the_step_that_leads_there(self):
        self.ends([loop(0, put("a", 0, 1))], 1, [0])
        self.ends([when(0, [put("a", 0, 1)])], 1, [0])
        self.ends([when(1)], 1, [0])
        self.ends([loop(1, when(1, [BREAK]))], 3, [0])


class IfTest(StepsCase):
    def test_both_bodies(self):
        for condition, word in ((0, 2), (1, 1), (-1, 1), (2, 1)):
            self.ends([when(condition, [put("a", 0, 1)], [put("a", 0, 2)]), put("a", 1, 3)], 3, [word, 3])

    def test_empty_bodies(self):
        self.ends([when(1, [], [put("a", 0, 2)]), put("a", 1, 3)], 2, [0, 3])
        self.ends([when(0, [], [put("a", 0, 2)]), put("a", 1, 3)], 3, [2, 3])
        self.ends([when(1, [put("a", 0, 1)]), put("a", 1, 3)], 3, [1, 3])
        self.ends([when(0, [put("a", 0, 1)]), put("a", 1, 3)], 2, [0, 3])
        self.ends([when(1), when(0), put("a", 1, 3)], 3, [0, 3])

    def test_ifs_in_ifs(self):
        for first in (0, 1):
            for second in (0, 1):
                inner = when(second, [put("a", 0, 1)], [put("a", 0, 2)])
                other = when(second, [put("a", 0, 3)], [put("a", 0, 4), put("a", 2, 9)])
                more = 1 if (first, second) == (0, 0) else 0
                word = {(1, 1): 1, (1, 0): 2, (0, 1): 3, (0, 0): 4}[first, second]
                self.ends([when(first, [inner], [other]), put("a", 1, 3)], 4 + more, [word, 3, 9 * more])


class WhileTest(StepsCase):
    def test_rounds(self):
        for rounds in (0, 1, 2, 7):
            body = [let("x", 0), loop("n", LOWER, COUNT), put("a", 0, "x"), put("a", 1, "n")]
            self.ends(body, 1 + 3 * rounds + 1 + 2, [rounds, 0], n=rounds)

    def test_behind_the_last_statement_the_while_is_next(self):
        self.ends([loop("n", LOWER, when(0, [put("a", 0, 1)])), put("a", 1, 2)], 3 * 2 + 1 + 1, [0, 2], n=2)
        self.ends([loop("n", when(1, [LOWER])), put("a", 1, 2)], 3 * 2 + 1 + 1, [0, 2], n=2)

    def test_an_empty_body(self):
        self.ends([loop(0), put("a", 0, 1)], 2, [1])
        self.ends([loop(1), put("a", 0, 1)], 400, [0], end="fuel")

    def test_break_out_of_an_if(self):
        body = [let("x", 0), loop(1, COUNT, when(bi("eq", "x", 3), [BREAK]), put("a", 1, "x")), put("a", 0, "x")]
        self.ends(body, 1 + 2 * 4 + 4 + 1, [3, 2])

    def test_continue_out_of_an_if(self):
        body = [
            let("x", 0),
            loop("n", LOWER, when(bi("eq", "n", 1), [CONTINUE]), COUNT),
            put("a", 0, "x"),
        ]
        self.ends(body, 1 + 4 * 3 + 1 + 1, [2], n=3)

    def test_break_and_continue_in_the_second_body(self):
        self.ends([loop("n", LOWER, when(0, [], [CONTINUE]), put("a", 0, 7)), put("a", 1, 1)], 2 * 4 + 2, [0, 1], n=2)
        self.ends([loop("n", LOWER, when(0, [], [BREAK]), put("a", 0, 7)), put("a", 1, "n")], 5, [0, 1], n=2)

    def test_break_of_the_inner_loop(self):
        inner = loop(1, COUNT, BREAK, put("a", 2, 9))
        body = [let("x", 0), loop("n", LOWER, inner, put("a", 1, "x")), put("a", 0, "x")]
        self.ends(body, 1 + 3 * 6 + 1 + 1, [3, 3, 0], n=3)

    def test_continue_of_the_inner_loop(self):
        inner = loop("y", assign("y", bi("sub", "y", 1)), COUNT, CONTINUE, put("a", 2, 9))
        body = [let("x", 0), loop("n", LOWER, let("y", 2), inner, put("a", 1, "x")), put("a", 0, "x")]
        self.ends(body, 1 + 2 * (3 + 4 * 2 + 1 + 1) + 1 + 1, [4, 4, 0], n=2)

    def test_break_of_the_outer_loop_behind_the_inner_one(self):
        body = [loop(1, loop(0), when(1, [when(1, [BREAK])]), put("a", 0, 1)), put("a", 1, 2)]
        self.ends(body, 6, [0, 2])

    def test_return_out_of_two_loops(self):
        self.ends([loop(1, loop(1, when(1, [RETURN])), BREAK), put("a", 0, 1)], 4, [0])

    def test_a_variable_that_is_declared_in_each_round(self):
        body = [
            loop("n", LOWER, let("x", "n"), when(bi("lt", "x", 1), [let("y", "x")], [let("y", 8)]),
                 atomic("add", "a", "x", 1), let("y", bi("mul", "x", 2)), put("b", "x", "y")),
            let("x", 77), put("a", 3, "x"),
        ]
        end, memory, races, _ = run(kernel(*body), launch(n=3), [])
        self.assertEqual((end, memory[0][:4], memory[1][:4], races), ("ok", (1, 1, 1, 77), (0, 2, 4, 0), []))

    def test_the_condition_is_evaluated_in_each_round(self):
        body = [loop(bi("lt", load("a", 0), 3), put("a", 0, bi("add", load("a", 0), 1))), put("a", 1, load("a", 0))]
        self.ends(body, 8, [3, 3])


class SharedTest(StepsCase):
    def test_cells_are_0_at_first(self):
        self.ends([put("a", 0, bi("add", load("s", 0), load("s", 3))), put("a", 1, load("t", 1))], 2, [0, 0])

    def test_each_block_has_its_own(self):
        body = (put("s", 0, bi("add", load("s", 0), bi("add", ("special", "bid"), 7))),
                put("a", ("special", "bid"), load("s", 0)))
        for turns in ([], [1, 0, 2, 1, 0, 2], [2, 2, 2, 2, 2, 2]):
            end, memory, races, _ = run(kernel(*body), launch(3, 1), turns)
            self.assertEqual((end, memory[0][:4], races), ("ok", (7, 8, 9, 0), []))

    def test_they_are_not_the_buffers(self):
        self.ends([put("s", 0, 3), put("t", 0, 4), put("a", 0, load("s", 0)), put("a", 1, load("t", 0))], 4, [3, 4])

    def test_the_memory_is_that_of_the_buffers_alone(self):
        end, memory, _, _ = run(kernel(put("s", 0, 3)), (1, 1, (2, 0, 0), ((1,), (2, 3), ())), [])
        self.assertEqual((end, memory), ("ok", ((1,), (2, 3), ())))

    def test_the_sizes(self):
        body = [put("s", 3, 5), put("s", 4, 6), put("a", 0, load("s", 3)), put("a", 1, load("s", 4))]
        self.ends(body, 4, [5, 0])


class BufferTest(StepsCase):
    def test_parameters_in_their_order(self):
        program = ((("n", "int"), ("b", "buffer"), ("m", "int"), ("a", "buffer")), (),
                   (put("a", 0, "n"), put("b", 0, "m")))
        end, memory, _, _ = run(program, (1, 1, (4, 1, 6, 0), ((0,), (0,))), [])
        self.assertEqual((end, memory), ("ok", ((4,), (6,))))

    def test_words_at_first(self):
        end, memory, _, _ = run(kernel(put("a", 0, load("b", 1))), launch(a=(1, 2), b=(3, 4)), [])
        self.assertEqual((end, memory), ("ok", ((4, 2), (3, 4))))

    def test_pick_of_two_cells(self):
        self.ends([put("a", 1, 3), put("a", 0, pick(0, load("a", 0), load("a", 1)))], 2, [3, 3])

    def test_threads_that_do_different_things(self):
        body = (only(0, put("a", 0, 1)), only(2, put("a", 2, 3)))
        end, memory, _, steps = run(kernel(*body), launch(1, 3), [2, 2, 2, 1])
        self.assertEqual((end, memory[0][:3], steps), ("ok", (1, 0, 3), 8))


if __name__ == "__main__":
    unittest.main()
