"""Points 1, 7, 8 and 9: turns, worlds and their copies, free launches, and runs written twice."""

import copy
import unittest

from drawloom.errors import NotReady
from drawloom.kernels import check_kernel, check_launch
from drawloom.meaning import World, is_free, run
from tests.randoms import random_kernel, random_launch, random_turns
from tests.reference import SlowKernel, slow_run
from tests.short import (
    BARRIER, BID, DIM, RETURN, TID, assign, atomic, bi, collect, kernel, launch, let, load, loop, only, put, when,
)

AT = bi("add", bi("mul", BID, DIM), TID)

# Launches that are free, that race, that are stuck, and that run out of fuel.
FREE = (kernel(put("a", AT, TID), BARRIER, atomic("add", "b", 0, AT), let("x", load("a", AT))), launch(2, 3))
RACING = (kernel(put("a", TID, 1)), launch(2, 2))
STUCK = (kernel(when(TID, [BARRIER]), put("a", AT, 1)), launch(1, 2))
ENDLESS = (kernel(when(bi("eq", TID, 1), [loop(1)])), launch(1, 2))
STUCK_AND_RACING = (kernel(put("a", 0, 1), only(0, BARRIER)), launch(1, 2))
ENDLESS_AND_RACING = (kernel(put("a", 0, 1), loop(1)), launch(1, 2))

# Which thread did each step shows in what the atomic operations leave.
ORDERED = (kernel(put("s", 0, 0), assign("n", load("b", 0)), put("b", 0, TID), put("a", TID, "n")), launch(1, 3))


def snapshot(world):
    return (world.ready(), world.end(), world.memory(), world.races(), world.steps())


def by_hand(program, start, turns):
    """Return what a run by turns returns, and who did each step."""
    world = World(program, start)
    threads = []
    while world.end() == "":
        ready = world.ready()
        turn = turns[len(threads)] if len(threads) < len(turns) else 0
        threads.append(ready[turn % len(ready)])
        world.step(threads[-1])
    return (world.end(), world.memory(), world.races(), world.steps()), threads


class TurnsTest(unittest.TestCase):
    def test_run_tells_the_same_as_the_steps(self):
        for program, start in (FREE, RACING, STUCK, ENDLESS, STUCK_AND_RACING, ENDLESS_AND_RACING, ORDERED):
            for turns in ([], [0], [5, 4, 3, 2, 1], [-1] * 12, [10 ** 20, -10 ** 20], random_turns(3, 900)):
                self.assertEqual(run(program, start, turns), by_hand(program, start, turns)[0])

    def test_behind_the_end_of_the_turns_the_first_one(self):
        self.assertEqual(by_hand(*ORDERED, [])[1], [0] * 4 + [1] * 4 + [2] * 4)
        self.assertEqual(by_hand(*ORDERED, [2, 1])[1], [2, 1] + [0] * 4 + [1] * 3 + [2] * 3)
        self.assertEqual(run(*ORDERED, [])[1][0][:3], (0, 0, 1))

    def test_turns_that_are_greater_than_the_number_of_the_ready_ones(self):
        for turns in ([3, 4, 5], [6, -2, 8], [3 * 10 ** 30, 1, 2]):
            self.assertEqual(run(*ORDERED, turns), run(*ORDERED, [0, 1, 2]))

    def test_turns_that_are_negative(self):
        self.assertEqual(run(*ORDERED, [-1] * 12), run(*ORDERED, [2, 2, 2, 2, 1, 1, 1, 1]))
        self.assertEqual(run(*ORDERED, [-3, -4]), run(*ORDERED, [0, 2]))
        self.assertNotEqual(run(*ORDERED, [-1] * 12)[1], run(*ORDERED, [])[1])

    def test_more_turns_than_steps(self):
        self.assertEqual(run(*ORDERED, [1] * 500), run(*ORDERED, [1] * 12))
        self.assertEqual(run(kernel(), launch(), [1, 2]), run(kernel(), launch(), []))

    def test_only_the_ready_ones_count(self):
        # Behind its first step thread 1 waits: turn 1 is thread 2, then 0 alone is left.
        program = (kernel(BARRIER, put("a", TID, 1)), launch(1, 3))
        self.assertEqual(by_hand(*program, [1, 1, 1, 5, 1, 7])[1], [1, 2, 0, 2, 1, 0])

    def test_turns_count_by_steps(self):
        self.assertEqual(by_hand(*ORDERED, [0, 1, 2, 1, 0])[1][:6], [0, 1, 2, 1, 0, 0])


class NotReadyTest(unittest.TestCase):
    def refused(self, world, *threads):
        for thread in threads:
            before = snapshot(world)
            with self.assertRaises(NotReady) as caught:
                world.step(thread)
            self.assertIs(type(caught.exception), NotReady)
            self.assertEqual(snapshot(world), before)

    def test_a_thread_that_is_not_there(self):
        self.refused(World(*FREE), -1, -6, -7, 6, 7, 100)

    def test_a_thread_that_waits(self):
        world = World(kernel(BARRIER, put("a", TID, 1)), launch(1, 2))
        world.step(1)
        self.refused(world, 1)
        world.step(0)
        world.step(1)
        self.refused(world, 1)

    def test_a_thread_that_has_ended(self):
        world = World(kernel(RETURN), launch(1, 2))
        world.step(0)
        self.refused(world, 0)
        world.step(1)
        self.refused(world, 0, 1, 2, -1)

    def test_behind_each_end(self):
        for program, start in (FREE, STUCK, ENDLESS):
            world = World(program, start)
            while world.ready():
                world.step(world.ready()[-1])
            self.refused(world, *range(-1, 8))
            self.assertEqual(world.ready(), [])

    def test_a_kernel_without_statements(self):
        self.refused(World(kernel(), launch(1, 2)), 0, 1)


class CopiesTest(unittest.TestCase):
    def test_a_copy_behaves_as_the_world(self):
        for program, start in (FREE, RACING, STUCK, STUCK_AND_RACING, ORDERED):
            world = World(program, start)
            done = 0
            while world.end() == "":
                other = world.copy()
                self.assertEqual(snapshot(other), snapshot(world))
                while other.end() == "":
                    other.step(other.ready()[-1])
                done += 1
                world.step(world.ready()[done % len(world.ready())])
            self.assertEqual(snapshot(world.copy()), snapshot(world))

    def test_copies_and_worlds_do_not_change_each_other(self):
        for seed in range(40):
            program, start = random_kernel(seed, True), random_launch(seed)
            worlds = [World(program, start)]
            turns = random_turns(seed, 150)
            ways = [[]]
            for step, turn in enumerate(turns):
                at = turn % len(worlds)
                if step % 30 == 29:
                    worlds.append(worlds[at].copy())
                    ways.append(list(ways[at]))
                elif worlds[at].ready():
                    thread = worlds[at].ready()[turn % len(worlds[at].ready())]
                    worlds[at].step(thread)
                    ways[at].append(thread)
            for world, way in zip(worlds, ways):
                alone = World(program, start)
                for thread in way:
                    alone.step(thread)
                self.assertEqual(snapshot(world), snapshot(alone))

    def test_a_copy_of_a_world_in_which_threads_wait(self):
        body = (let("x", 1), collect("y", "add", bi("add", TID, 3)), put("a", TID, "y"), put("s", 0, "y"))
        world = World(kernel(*body), launch(1, 2))
        for thread in (0, 0, 1):
            world.step(thread)
        other = world.copy()
        world.step(1)
        self.assertEqual((other.ready(), world.ready()), ([1], [0, 1]))
        other.step(1)
        for one in (world, other):
            for thread in (0, 1, 0, 1):
                one.step(thread)
            self.assertEqual((one.end(), one.memory()[0][:2]), ("ok", (7, 7)))

    def test_a_copy_of_a_world_that_is_out_of_fuel(self):
        world = World(kernel(loop(1)), launch())
        for _ in range(400):
            world.step(0)
        other = world.copy()
        world.step(0)
        self.assertEqual((world.end(), other.end(), world.copy().end()), ("fuel", "", "fuel"))
        other.step(0)
        self.assertEqual(snapshot(other), snapshot(world))

    def test_a_copy_knows_how_many_barriers_were_passed(self):
        world = World(kernel(only(0, put("a", 0, 1)), BARRIER, only(1, put("a", 0, 2))), launch(1, 2))
        for thread in (0, 0, 0, 1, 1):
            world.step(thread)
        other = world.copy()
        for one in (other, world):
            while one.ready():
                one.step(one.ready()[-1])
            self.assertEqual((one.end(), one.races(), one.memory()[0][0]), ("ok", [], 2))

    def test_a_copy_has_its_own_number_of_steps_for_each_thread(self):
        world = World(kernel(loop(1)), launch(1, 2))
        for _ in range(399):
            world.step(1)
        other = world.copy()
        other.step(1)
        world.step(1)
        self.assertEqual((world.end(), other.end(), world.steps(), other.steps()), ("", "", 400, 400))
        third = world.copy()
        third.step(1)
        self.assertEqual((world.end(), third.end()), ("", "fuel"))

    def test_worlds_of_one_kernel_are_independent(self):
        one, other = World(*ORDERED), World(*ORDERED)
        before = snapshot(other)
        while one.ready():
            one.step(one.ready()[0])
        self.assertEqual(snapshot(other), before)


class OwnersTest(unittest.TestCase):
    def test_lists_that_are_returned_belong_to_the_caller(self):
        world = World(*RACING)
        while world.ready():
            before = snapshot(world)
            for rows in (world.ready(), world.races()):
                rows.append(7)
                rows.reverse()
                rows.clear()
            self.assertEqual(snapshot(world), before)
            world.step(world.ready()[0])
        self.assertEqual(len(world.races()), 2)

    def test_results_of_runs_share_nothing(self):
        first = run(*RACING, [])
        second = run(*RACING, [])
        first[2].clear()
        self.assertEqual(len(second[2]), 2)
        self.assertEqual(run(*RACING, []), second)

    def test_arguments_stay_as_they_are(self):
        for program, start in (FREE, RACING, STUCK, ENDLESS):
            turns = [3, -1, 2, 2]
            before = copy.deepcopy((program, start, turns))
            run(program, start, turns)
            is_free(program, start)
            self.assertEqual((program, start, turns), before)

    def test_kinds_of_values(self):
        end, memory, races, steps = run(*RACING, [])
        self.assertIs(type(run(*RACING, [])), tuple)
        self.assertEqual([type(value) for value in (end, memory, races, steps)], [str, tuple, list, int])
        self.assertEqual([type(row) for row in memory], [tuple, tuple])
        for pair in races:
            self.assertEqual([type(pair), type(pair[0]), type(pair[1])], [tuple, tuple, tuple])


class FreeTest(unittest.TestCase):
    def test_which_launches_are_free(self):
        for (program, start), free in (
            (FREE, True), (RACING, False), (STUCK, False), (ENDLESS, False),
            (STUCK_AND_RACING, False), (ENDLESS_AND_RACING, False), ((kernel(), launch(4, 8)), True),
        ):
            self.assertIs(is_free(program, start), free)

    def test_a_free_launch_by_several_lists_of_turns(self):
        many = 0
        for seed in range(120):
            program, start = random_kernel(seed), random_launch(seed)
            if is_free(program, start):
                many += 1
                told = run(program, start, [])
                self.assertEqual((told[0], told[2]), ("ok", []))
                for turns in ([-1] * 400, random_turns(seed, 600), [1] * 99):
                    self.assertEqual(run(program, start, turns), told)
        self.assertGreater(many, 60)


class WrittenTwiceTest(unittest.TestCase):
    """The same runs as by an interpreter that the tests have of their own."""

    def test_random_kernels(self):
        ends = {}
        for seed in range(400):
            program, start = random_kernel(seed, seed % 4 > 0, 10), random_launch(seed)
            self.assertIsNone(check_kernel(program))
            self.assertIsNone(check_launch(program, start))
            for turns in ([], random_turns(seed, 250)):
                told = run(program, start, turns)
                self.assertEqual(told, slow_run(program, start, turns), seed)
                key = (told[0], len(told[2]) > 0)
                ends[key] = ends.get(key, 0) + 1
        for key in (("ok", False), ("ok", True), ("stuck", False), ("stuck", True)):
            self.assertGreater(ends.get(key, 0), 3, key)

    def test_step_by_step(self):
        for seed in range(60):
            program, start = random_kernel(seed, True), random_launch(seed)
            world, slow = World(program, start), SlowKernel(program, start)
            for turn in random_turns(seed, 200):
                self.assertEqual((world.ready(), world.end()), (slow.ready(), slow.end()))
                self.assertEqual((world.races(), world.steps()), (slow.told, slow.passed))
                if world.ready():
                    thread = world.ready()[turn % len(world.ready())]
                    world.step(thread)
                    slow.step(thread)


if __name__ == "__main__":
    unittest.main()
