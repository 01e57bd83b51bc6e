"""Point 7: barriers and collects, threads that are stuck, and threads without further steps."""

import unittest

from drawloom.errors import NotReady
from drawloom.meaning import World, run
from drawloom.words import FOLDING, fold
from tests.short import (
    A, BARRIER, BID, DIM, RETURN, TID, assign, bi, collect, kernel, launch, let, load, loop, only, put, store_of,
    when, world_after,
)

AT = bi("add", bi("mul", BID, DIM), TID)


class BarrierTest(unittest.TestCase):
    def test_threads_pass_as_a_part_of_the_last_ones_step(self):
        world = World(kernel(BARRIER, put("a", TID, 1)), launch(1, 3))
        for thread, ready, steps in ((1, [0, 2], 1), (0, [2], 2), (2, [0, 1, 2], 3)):
            world.step(thread)
            self.assertEqual((world.ready(), world.steps(), world.end()), (ready, steps, ""))
        for thread in (2, 0, 1):
            world.step(thread)
        self.assertEqual((world.end(), world.steps(), world.memory()[0][:4]), ("ok", 6, (1, 1, 1, 0)))

    def test_one_thread_passes_at_once(self):
        self.assertEqual(run(kernel(BARRIER, BARRIER), launch(), [])[::3], ("ok", 2))
        world = world_after(kernel(BARRIER, put("a", 0, 1)), launch(), 0)
        self.assertEqual(world.ready(), [0])

    def test_a_barrier_at_the_end_ends_all_threads(self):
        world = world_after(kernel(BARRIER), launch(1, 3), 2, 0)
        self.assertEqual((world.end(), world.ready()), ("", [1]))
        world.step(1)
        self.assertEqual((world.end(), world.ready(), world.steps()), ("ok", [], 3))

    def test_a_barrier_at_the_end_of_a_loop(self):
        body = (loop("n", assign("n", bi("sub", "n", 1)), BARRIER), put("a", TID, "n"))
        end, memory, races, steps = run(kernel(*body), launch(1, 2, n=2), [1, 0, 1])
        self.assertEqual((end, memory[0][:2], races, steps), ("ok", (0, 0), [], 2 * (2 * 3 + 1 + 1)))

    def test_what_is_stored_before_is_loaded_behind(self):
        body = (put("s", TID, bi("add", TID, 5)), BARRIER, put("a", TID, load("s", bi("sub", bi("sub", DIM, 1), TID))))
        for turns in ([], [2, 1, 0, 0, 0, 0], [1] * 20, list(range(20))):
            end, memory, races, steps = run(kernel(*body), launch(1, 3), turns)
            self.assertEqual((end, memory[0][:3], races, steps), ("ok", (7, 6, 5), [], 9))

    def test_blocks_do_not_wait_for_each_other(self):
        world = World(kernel(BARRIER, put("a", AT, 1)), launch(2, 2))
        for thread, ready in ((0, [1, 2, 3]), (3, [1, 2]), (2, [1, 2, 3]), (2, [1, 3]), (1, [0, 1, 3])):
            world.step(thread)
            self.assertEqual(world.ready(), ready)

    def test_one_block_is_stuck_and_another_one_ends(self):
        body = (when(bi("eq", BID, 0), [only(0, BARRIER)]), put("a", AT, 1))
        end, memory, races, steps = run(kernel(*body), launch(2, 2), [])
        self.assertEqual((end, memory[0][:4], races, steps), ("stuck", (0, 1, 1, 1), [], 10))


class CollectTest(unittest.TestCase):
    def test_the_fold_of_the_words_of_all_threads(self):
        words = (6, -3, 12, 5)
        for op in FOLDING:
            body = (collect("x", op, load("b", TID)), put("a", TID, "x"))
            for turns in ([], [3, 1, 0], list(range(30))):
                end, memory, races, steps = run(kernel(*body), launch(1, 4, b=words), turns)
                self.assertEqual((end, races, steps), ("ok", [], 8))
                self.assertEqual(memory[0][:4], (fold(op, words),) * 4, op)

    def test_one_thread(self):
        end, memory, _, _ = run(kernel(collect("x", "min", "n"), put("a", 0, "x")), launch(), [])
        self.assertEqual((end, memory[0][0]), ("ok", 5))

    def test_blocks_have_their_own(self):
        body = (collect("x", "add", bi("add", bi("mul", BID, 10), TID)), put("a", AT, "x"))
        end, memory, _, _ = run(kernel(*body), launch(3, 2), [5, 4, 3, 2, 1, 0])
        self.assertEqual((end, memory[0][:6]), ("ok", (1, 1, 21, 21, 41, 41)))

    def test_in_each_round_of_a_loop(self):
        body = (let("y", TID), loop("n", assign("n", bi("sub", "n", 1)), collect("x", "add", "y"), assign("y", "x")),
                put("a", TID, "y"))
        end, memory, _, _ = run(kernel(*body), launch(1, 3, n=3), [1, 2, 0, 0])
        self.assertEqual((end, memory[0][:3]), ("ok", (27, 27, 27)))

    def test_the_word_is_that_of_when_the_thread_came(self):
        body = (collect("x", "add", load("b", TID)), put("a", TID, "x"))
        world = world_after(kernel(*body), launch(1, 2, b=(4, 5)), 1, 0, 0, 1)
        self.assertEqual(world.memory()[0][:2], (9, 9))

    def test_a_collect_that_is_last_ends_all(self):
        self.assertEqual(run(kernel(collect("x", "add", 1)), launch(2, 3), [])[::3], ("ok", 6))


class StuckTest(unittest.TestCase):
    def stuck(self, body, steps, threads=2):
        for turns in ([], [1, 0, 1, 1, 0], [-1] * 30):
            end, _, races, many = run(kernel(*body), launch(1, threads), turns)
            self.assertEqual((end, races, many), ("stuck", [], steps))

    def test_different_statements(self):
        self.stuck([when(TID, [BARRIER], [BARRIER])], 4)
        self.stuck([when(TID, [BARRIER]), BARRIER], 4)
        self.stuck([when(TID, [collect("x", "add", 1)], [collect("x", "add", 1)])], 4)
        self.stuck([when(TID, [collect("x", "add", 1)], [BARRIER])], 4)

    def test_a_thread_that_has_ended(self):
        self.stuck([only(1, RETURN), BARRIER], 4)
        self.stuck([only(0, BARRIER)], 3)
        self.stuck([only(2, BARRIER)], 4, threads=3)

    def test_a_thread_that_ends_while_another_one_waits(self):
        world = world_after(kernel(only(1, RETURN), BARRIER), launch(1, 2), 0, 0)
        self.assertEqual((world.ready(), world.end()), ([1], ""))
        world.step(1)
        world.step(1)
        self.assertEqual((world.ready(), world.end()), ([], "stuck"))
        for thread in (0, 1, 2, -1):
            with self.assertRaises(NotReady):
                world.step(thread)

    def test_threads_that_wait_elsewhere_can_not_come_together(self):
        body = (when(TID, [BARRIER, BARRIER], [BARRIER]),)
        self.stuck(body, 4)

    def test_a_race_before_it_is_told(self):
        body = (put("a", 0, 1), only(1, BARRIER))
        end, _, races, _ = run(kernel(*body), launch(1, 2), [])
        self.assertEqual((end, races), ("stuck", [(store_of(A, 0, 0, 0), store_of(A, 0, 1, 2))]))


class FuelTest(unittest.TestCase):
    def world(self, *body, threads=1, n=5):
        return World(kernel(*body), launch(1, threads, n=n))

    def test_a_thread_does_400_steps(self):
        world = self.world(loop(1))
        for step in range(400):
            self.assertEqual((world.end(), world.ready(), world.steps()), ("", [0], step))
            world.step(0)
        self.assertEqual((world.end(), world.ready(), world.steps()), ("", [0], 400))

    def test_a_step_beyond_ends_the_run_and_does_not_count(self):
        world = self.world(loop(1), threads=2)
        for _ in range(400):
            world.step(1)
        for _ in range(3):
            world.step(0)
        world.step(1)
        self.assertEqual((world.end(), world.ready(), world.steps()), ("fuel", [], 403))
        for thread in (0, 1):
            with self.assertRaises(NotReady):
                world.step(thread)
        self.assertEqual((world.end(), world.ready(), world.steps()), ("fuel", [], 403))

    def test_a_step_beyond_has_no_other_effect(self):
        # 1 + 199 * 2 + 1 steps; the next one would store, and make a race.
        body = (put("a", 7, 1), loop("n", assign("n", bi("sub", "n", 1))), put("a", 0, 9), put("a", 1, 9))
        world = self.world(*body, threads=2, n=199)
        world.step(0)
        world.step(0)
        for _ in range(400):
            world.step(1)
        self.assertEqual(world.end(), "")
        told, memory = world.races(), world.memory()
        self.assertEqual(memory[0], (0, 0, 0, 0, 0, 0, 0, 1))
        world.step(1)
        self.assertEqual((world.end(), world.memory(), world.races(), world.steps()), ("fuel", memory, told, 402))

    def test_a_barrier_beyond_is_not_reached(self):
        body = (loop("n", assign("n", bi("sub", "n", 1))), put("a", TID, 1), BARRIER)
        end, memory, _, steps = run(kernel(*body), launch(1, 2, n=199), [1] * 2000)
        self.assertEqual((end, memory[0][:2], steps), ("fuel", (0, 1), 400))

    def test_a_thread_that_ends_with_its_last_step(self):
        # 1 + 2 * 199 + 1 steps.
        body = (put("a", 0, 1), loop("n", assign("n", bi("sub", "n", 1))))
        self.assertEqual(run(kernel(*body), launch(n=199), [])[::3], ("ok", 400))
        self.assertEqual(run(kernel(*(body + (put("a", 0, 1),))), launch(n=199), [])[::3], ("fuel", 400))
        self.assertEqual(run(kernel(*((put("a", 0, 1),) + body)), launch(n=199), [])[::3], ("fuel", 400))

    def test_a_thread_that_passes_a_barrier_with_its_last_step(self):
        body = (put("a", 0, 1), loop("n", assign("n", bi("sub", "n", 1))))
        last = (loop("n", assign("n", bi("sub", "n", 1))), BARRIER)
        self.assertEqual(run(kernel(*last), launch(1, 2, n=199), [])[::3], ("ok", 800))
        self.assertEqual(run(kernel(*body, BARRIER), launch(n=199), [])[::3], ("fuel", 400))

    def test_passing_counts_as_a_step_of_the_last_one_alone(self):
        # The first thread waits early, and does all its other steps behind the barrier.
        body = (BARRIER, loop("n", assign("n", bi("sub", "n", 1))), put("a", TID, 1))
        self.assertEqual(run(kernel(*body[:2]), launch(1, 2, n=199), [])[::3], ("ok", 800))
        self.assertEqual(run(kernel(*body), launch(1, 2, n=199), [])[::3], ("fuel", 401))

    def test_each_thread_has_its_own_400_steps(self):
        body = (loop("n", assign("n", bi("sub", "n", 1))),)
        for turns in ([], list(range(3000))):
            self.assertEqual(run(kernel(*body), launch(4, 2, n=199), turns)[::3], ("ok", 8 * 399))


if __name__ == "__main__":
    unittest.main()
