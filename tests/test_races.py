"""Point 8: accesses that conflict, those that are ordered, and the races that are told."""

import unittest

from drawloom.meaning import World, run
from drawloom.words import FOLDING
from tests.short import (
    A, B, BARRIER, BID, TID, atomic, bi, collect, kernel, launch, let, load, load_of, only, put, store_of, when,
    world_after,
)

LOAD = let("x", load("a", 3))
STORE = put("a", 3, 7)
CHANGES = tuple(atomic(op, "a", 3, 1) for op in FOLDING)


def kind_of(statement):
    return {"let": "load", "put": "store"}.get(statement[0], statement[1])


def told(*body, start=None, turns=()):
    """Return the races of a run."""
    return run(kernel(*body), start or launch(1, 2), list(turns))[2]


def both(first, second):
    """Return the races of a thread that does one statement before another thread does the other one."""
    return told(when(TID, [second], [first]))


class KindsTest(unittest.TestCase):
    def conflict(self, first, second):
        for one, other in ((first, second), (second, first)):
            earlier = (A, 3, 0, kind_of(one), 1)
            later = (A, 3, 1, kind_of(other), 3)
            self.assertEqual(both(one, other), [(earlier, later)])

    def none(self, first, second):
        self.assertEqual(both(first, second), [])
        self.assertEqual(both(second, first), [])

    def test_a_load_and_a_store(self):
        self.conflict(LOAD, STORE)

    def test_two_stores(self):
        self.conflict(STORE, STORE)
        self.conflict(STORE, put("a", 3, 8))

    def test_two_loads(self):
        self.none(LOAD, LOAD)

    def test_atomic_operations_with_loads_and_stores(self):
        for change in CHANGES:
            self.conflict(change, LOAD)
            self.conflict(change, STORE)

    def test_two_atomic_operations(self):
        for first in CHANGES:
            for second in CHANGES:
                if first == second:
                    self.none(first, second)
                else:
                    self.conflict(first, second)

    def test_atomic_operations_with_other_words(self):
        self.none(CHANGES[0], atomic("add", "a", 3, 99))

    def test_different_cells(self):
        for first in (LOAD, STORE) + CHANGES:
            self.none(first, put("a", 2, 7))
            self.none(first, put("b", 3, 7))
            self.none(first, put("s", 3, 7))

    def test_one_thread_alone(self):
        self.assertEqual(told(LOAD, STORE, *CHANGES, STORE, LOAD, start=launch()), [])

    def test_one_step_of_one_thread(self):
        self.assertEqual(told(put("a", 3, bi("add", load("a", 3), load("a", 3))), start=launch()), [])


class FieldsTest(unittest.TestCase):
    def test_buffers_by_their_index_in_the_launch(self):
        start = (1, 2, (2, 5, 0), ((0,) * 4, (0,) * 4, (0,) * 4))
        first = (("buffer", 2), 1, 0, "store", 0)
        self.assertEqual(told(put("a", 1, 7), start=start), [(first, (("buffer", 2), 1, 1, "store", 1))])
        first = (("buffer", 0), 2, 0, "store", 0)
        self.assertEqual(told(put("b", 2, 7), start=start), [(first, (("buffer", 0), 2, 1, "store", 1))])

    def test_two_parameters_that_are_one_buffer(self):
        start = (1, 2, (1, 5, 1), ((0,) * 4, (0,) * 4))
        races = told(when(TID, [let("x", load("b", 2))], [put("a", 2, 1)]), start=start)
        self.assertEqual(races, [((B, 2, 0, "store", 1), (B, 2, 1, "load", 3))])

    def test_shared_arrays_by_block_and_index(self):
        races = told(when(BID, [put("t", 1, TID)]), start=launch(2, 2), turns=[2, 3, 3, 2])
        space = ("shared", 1, 1)
        self.assertEqual(races, [((space, 1, 3, "store", 2), (space, 1, 2, "store", 3))])
        races = told(put("s", 0, TID), start=launch(2, 2), turns=[3])
        one, other = ("shared", 1, 0), ("shared", 0, 0)
        self.assertEqual(races, [
            ((other, 0, 0, "store", 1), (other, 0, 1, "store", 2)),
            ((one, 0, 3, "store", 0), (one, 0, 2, "store", 3)),
        ])

    def test_shared_arrays_of_different_blocks_are_different_cells(self):
        self.assertEqual(told(put("s", 0, 1), start=launch(3, 1)), [])

    def test_the_number_of_the_step(self):
        body = (let("x", 1), let("y", 1), put("a", 3, bi("add", load("a", 3), 1)))
        races = told(*body, turns=[1, 0, 1, 0, 0])
        self.assertEqual(races, [(store_of(A, 3, 0, 4), load_of(A, 3, 1, 5))])
        world = world_after(kernel(*body), launch(1, 2), 1, 0, 1, 0, 1)
        self.assertEqual(world.races(), [])
        world.step(0)
        self.assertEqual(world.races(), [(store_of(A, 3, 1, 4), load_of(A, 3, 0, 5))])

    def test_threads_by_their_numbers(self):
        races = told(only(1, put("a", 0, 1)), start=launch(3, 2), turns=[5] * 2)
        self.assertEqual(races, [(store_of(A, 0, 5, 1), store_of(A, 0, 1, 4))])


class OrderedTest(unittest.TestCase):
    def test_different_phases_of_one_block(self):
        for barrier in (BARRIER, collect("z", "add", 1)):
            for first in (LOAD, STORE) + CHANGES:
                for second in (LOAD, STORE) + CHANGES:
                    body = (only(0, first), barrier, only(1, second))
                    self.assertEqual(told(*body), [])

    def test_one_phase_behind_a_barrier(self):
        body = (BARRIER, only(0, STORE), only(1, LOAD), BARRIER)
        self.assertEqual(told(*body), [(store_of(A, 3, 0, 3), load_of(A, 3, 1, 8))])

    def test_many_phases(self):
        body = (only(0, STORE), BARRIER, BARRIER, only(1, STORE), collect("z", "add", 1), only(0, LOAD), BARRIER,
                only(1, STORE), only(0, LOAD))
        races = told(*body)
        self.assertEqual([(one[2:4], other[2:4]) for one, other in races], [((0, "load"), (1, "store"))])

    def test_blocks_in_different_phases_are_not_ordered(self):
        body = (when(BID, [BARRIER, STORE], [STORE]),)
        self.assertEqual(told(*body, start=launch(2, 1)), [(store_of(A, 3, 0, 1), store_of(A, 3, 1, 4))])
        self.assertEqual(told(BARRIER, STORE, BARRIER, start=launch(2, 1))[0][1], store_of(A, 3, 1, 4))

    def test_blocks_in_one_phase(self):
        self.assertEqual(told(LOAD, STORE, start=launch(2, 1)), [(store_of(A, 3, 0, 1), load_of(A, 3, 1, 2))])
        self.assertEqual(told(LOAD, CHANGES[0], start=launch(2, 1))[0], ((A, 3, 0, "add", 1), load_of(A, 3, 1, 2)))

    def test_the_accesses_of_the_step_that_passes_are_before_the_barrier(self):
        # The collect of thread 1 loads the cell as its last step before all go on.
        body = (only(0, STORE), collect("z", "add", load("a", 3)))
        races = told(*body)
        self.assertEqual(races, [(store_of(A, 3, 0, 1), load_of(A, 3, 1, 4))])
        body = (collect("z", "add", load("a", 3)), only(0, STORE))
        self.assertEqual(told(*body), [])

    def test_a_thread_that_waits_is_in_its_old_phase(self):
        body = (only(0, STORE), collect("z", "add", bi("mul", TID, load("a", 3))), only(0, STORE))
        races = told(*body, turns=[1, 1, 0, 0, 0])
        self.assertEqual(races, [(load_of(A, 3, 1, 1), store_of(A, 3, 0, 3))])


class EarliestTest(unittest.TestCase):
    def test_one_race_for_each_cell(self):
        races = told(STORE, STORE, LOAD, start=launch(2, 3))
        self.assertEqual(races, [(store_of(A, 3, 0, 0), store_of(A, 3, 1, 3))])

    def test_the_earliest_access_that_is_in_a_race(self):
        # Thread 2 loads, 1 loads, 0 loads, then thread 0 stores.
        body = (LOAD, only(0, STORE))
        races = told(*body, start=launch(1, 3), turns=[2, 1, 0, 0, 0])
        self.assertEqual(races, [(load_of(A, 3, 2, 0), store_of(A, 3, 0, 4))])

    def test_not_one_that_is_in_no_race_with_it(self):
        # The own load comes first, then that of thread 1, then the store.
        body = (LOAD, only(0, STORE))
        races = told(*body, turns=[0, 1, 0, 0])
        self.assertEqual(races, [(load_of(A, 3, 1, 1), store_of(A, 3, 0, 3))])

    def test_the_first_one_of_several_of_a_thread(self):
        body = (LOAD, LOAD, only(0, STORE))
        races = told(*body, turns=[1, 1, 0, 0, 0, 0])
        self.assertEqual(races, [(load_of(A, 3, 1, 0), store_of(A, 3, 0, 5))])

    def test_an_earlier_one_of_another_kind(self):
        body = (only(1, CHANGES[0], CHANGES[0]), only(2, CHANGES[0]), only(0, CHANGES[1]))
        races = told(*body, start=launch(1, 3), turns=[1] * 8)
        self.assertEqual(races, [((A, 3, 1, "add", 1), (A, 3, 0, "min", 11))])

    def test_not_one_of_an_earlier_phase(self):
        # In the first phase thread 1 loads, in the second one thread 2 does.
        body = (only(1, LOAD), BARRIER, only(2, LOAD), only(0, STORE))
        races = told(*body, start=launch(1, 3), turns=[1] * 2 + [0] * 5 + [2] * 3)
        self.assertEqual([(one[2], other[2]) for one, other in races], [(2, 0)])

    def test_one_of_the_same_thread_and_kind_in_a_later_phase(self):
        body = (only(1, LOAD), BARRIER, only(1, LOAD), BARRIER, only(1, LOAD), only(0, STORE))
        races = told(*body)
        self.assertEqual([(one[2:4], other[2:4]) for one, other in races], [((0, "store"), (1, "load"))])
        self.assertEqual(told(*(body[:5] + (BARRIER,) + body[5:])), [])

    def test_in_the_order_in_which_they_are_told(self):
        stores = [put("a", at, 1) for at in (4, 0, 2)]
        body = (when(TID, [put("a", at, 1) for at in (2, 4, 0, 3)], stores),)
        races = told(*body)
        self.assertEqual([other[:3] for _, other in races], [(A, 2, 1), (A, 4, 1), (A, 0, 1)])
        self.assertEqual([one[4] for one, _ in races], [3, 1, 2])

    def test_several_races_of_one_step(self):
        body = (when(TID, [put("a", 1, bi("add", load("a", 2), load("a", 0)))], [put("a", at, 1) for at in range(3)]),)
        self.assertEqual(told(*body), [
            (store_of(A, 2, 0, 3), load_of(A, 2, 1, 5)),
            (store_of(A, 0, 0, 1), load_of(A, 0, 1, 5)),
            (store_of(A, 1, 0, 2), store_of(A, 1, 1, 5)),
        ])

    def test_races_are_told_as_they_come(self):
        world = World(kernel(put("a", 0, 1), put("a", 1, 1)), launch(1, 2))
        for thread, many in ((0, 0), (1, 1), (1, 1), (0, 2)):
            world.step(thread)
            self.assertEqual(len(world.races()), many)

    def test_cells_that_are_not_there(self):
        for at in (-1, 8, 100):
            body = (let("x", load("a", at)), put("a", at, 1), atomic("add", "a", at, 1))
            self.assertEqual(told(*body, start=launch(2, 2)), [])

    def test_races_do_not_change_the_run(self):
        body = (put("a", 0, bi("add", load("a", 0), 1)),)
        end, memory, races, steps = run(kernel(*body), launch(1, 4), [2, 0])
        self.assertEqual((end, memory[0][0], len(races), steps), ("ok", 4, 1, 4))


if __name__ == "__main__":
    unittest.main()
