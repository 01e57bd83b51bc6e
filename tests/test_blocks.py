"""Point 34: blocks."""

import copy
import random
import unittest

from drawloom.blocks import Block
from drawloom.buffers import Memory
from drawloom.errors import NotReady
from drawloom.words import FOLDING, fold
from tests.randoms import random_code, random_launch
from tests.short import A, B, launch
from tests.shortcode import EXIT, TO_A, TO_B, TO_S, TO_T, code, state

BOTH = (False, True)
NOTHING = (0,) * 8


def block(value, start, number=0, width=4, free=False, room=0):
    """Return a block and its memory."""
    memory = Memory(value, start, room)
    return Block(value, start, memory, number, width, free), memory


def play(one, dice=None):
    """Do steps until there is none, always the first one or any; return the lists of the accesses."""
    found = []
    while one.status() == "running" and len(found) < 500:
        choices = [(warp, group) for warp in range(one.warps()) for group in range(one.groups(warp))]
        found.append(one.step(*(dice.choice(choices) if dice else choices[0])))
    return found


class BlockCase(unittest.TestCase):
    def not_ready(self, call, *arguments):
        with self.assertRaises(NotReady) as caught:
            call(*arguments)
        self.assertIs(type(caught.exception), NotReady)

    def told(self, one, memory):
        groups = [one.groups(warp) for warp in range(one.warps())]
        return (groups, one.phase(), one.status(), one.lanes(), memory.buffers(), memory.pending())


class WarpsTest(BlockCase):
    def test_widths(self):
        value = code(("special", 0, "tid"), ("special", 1, "bid"), EXIT)
        for dim in range(1, 9):
            for width in range(1, 9):
                for free in BOTH:
                    one, _ = block(value, launch(2, dim), 1, width, free)
                    many = (dim + width - 1) // width
                    self.assertEqual((one.warps(), one.status(), one.phase()), (many, "running", 0))
                    self.assertEqual([one.groups(warp) for warp in range(many)], [1] * many)
                    self.assertEqual(one.lanes(), [state(0)] * dim)
                    for warp in range(many):
                        self.assertEqual((one.step(warp, 0), one.step(warp, 0)), ([], []))
                        done = min(dim, warp * width + width)
                        self.assertEqual(
                            one.lanes(), [state(2, tid, 1) for tid in range(done)] + [state(0)] * (dim - done))
                    for warp in range(many):
                        self.assertEqual(one.status(), "running")
                        one.step(warp, 0)
                    self.assertEqual(one.status(), "ended")

    def test_warps_and_groups_that_are_not_there(self):
        value = code(("special", 0, "tid"), ("branch", 0, 3, 3), ("barrier", 0), EXIT)
        for free in BOTH:
            one, memory = block(value, launch(1, 5), 0, 4, free)
            one.step(0, 0)
            one.step(0, 0)
            before = self.told(one, memory)
            for warp, group in ((-1, 0), (2, 0), (0, -1), (0, 2), (1, 1), (1, -1), (0, 2 if free else 1)):
                self.not_ready(one.step, warp, group)
                self.assertEqual(self.told(one, memory), before)
            play(one)
            self.assertEqual(one.status(), "stuck")
            before = self.told(one, memory)
            for warp, group in ((0, 0), (1, 0)):
                self.not_ready(one.step, warp, group)
                self.assertEqual(self.told(one, memory), before)

    def test_masks_and_free(self):
        value = code(("special", 0, "tid"), ("word", 1, 2), ("binary", "lt", 1, 0, 1), ("branch", 1, 5, 5), ("word", 2, 3), EXIT)
        for free in BOTH:
            one, _ = block(value, launch(1, 4), 0, 4, free)
            for _ in range(4):
                one.step(0, 0)
            self.assertEqual(one.groups(0), 2 if free else 1)
            one.step(0, 0)
            # Free lanes meet; with masks those of the way to the join have waited for the others.
            self.assertEqual((one.groups(0), [lane[0] for lane in one.lanes()]), (1, [5, 5, 5, 5]))

    def test_many_groups(self):
        value = code(("special", 0, "tid"), ("word", 1, 1), ("branch", 0, 4, 6), EXIT, ("binary", "sub", 0, 0, 1), ("jump", 2),
                     EXIT)
        one, _ = block(value, launch(1, 4), 0, 4, True)
        for _ in range(3):
            one.step(0, 0)
        self.assertEqual(one.groups(0), 2)
        one.step(0, 1)
        one.step(0, 1)
        self.assertEqual([lane[0] for lane in one.lanes()], [3, 2, 2, 2])
        one.step(0, 0)
        self.assertEqual([lane[0] for lane in one.lanes()], [3, 3, 4, 4])


class RequestsTest(BlockCase):
    def test_in_ascending_order(self):
        # All lanes store into one cell: that of the last one stays.
        value = code(("special", 0, "tid"), ("store", TO_A, 7, 0), ("load", 1, TO_A, 7), ("atomic", "add", TO_B, 7, 0), EXIT)
        for free in BOTH:
            one, memory = block(value, launch(2, 4), 1, 4, free)
            self.assertEqual(one.step(0, 0), [])
            self.assertEqual(one.step(0, 0), [(A, 0, thread, "store") for thread in (4, 5, 6, 7)])
            self.assertEqual(memory.buffers()[0][0], 3)
            self.assertEqual(one.step(0, 0), [(A, 0, thread, "load") for thread in (4, 5, 6, 7)])
            self.assertEqual([lane[1][1] for lane in one.lanes()], [3] * 4)
            self.assertEqual(one.step(0, 0), [(B, 0, thread, "add") for thread in (4, 5, 6, 7)])
            self.assertEqual(memory.buffers()[1][0], 6)
            self.assertEqual(one.step(0, 0), [])
            self.assertEqual(one.status(), "ended")

    def test_a_full_queue_of_each_lane(self):
        # With room for one store, that of lane 1 is drained before lane 2 stores.
        value = code(("special", 0, "tid"), ("store", TO_A, 0, 0), ("store", TO_A, 7, 0), EXIT)
        one, memory = block(value, launch(1, 3), 0, 4, False, 1)
        one.step(0, 0)
        one.step(0, 0)
        self.assertEqual((memory.buffers()[0], memory.pending()), (NOTHING, [0, 1, 2]))
        one.step(0, 0)
        self.assertEqual((memory.buffers()[0], memory.pending()), ((0, 1, 2) + (0,) * 5, [0, 1, 2]))
        one.step(0, 0)
        self.assertEqual((memory.buffers()[0], memory.pending()), ((2, 1, 2) + (0,) * 5, []))

    def test_accesses_only_to_cells_that_are_there(self):
        value = code(("special", 0, "tid"), ("load", 1, TO_T, 0), ("store", TO_T, 0, 0), ("atomic", "max", TO_S, 0, 0), EXIT)
        one, _ = block(value, launch(2, 5), 1, 8, True)
        one.step(0, 0)
        space, other = ("shared", 1, 1), ("shared", 1, 0)
        self.assertEqual(one.step(0, 0), [(space, cell, 5 + cell, "load") for cell in range(2)])
        self.assertEqual(one.step(0, 0), [(space, cell, 5 + cell, "store") for cell in range(2)])
        self.assertEqual(one.step(0, 0), [(other, cell, 5 + cell, "max") for cell in range(4)])

    def test_each_operator(self):
        for op in FOLDING:
            value = code(("special", 0, "tid"), ("atomic", op, TO_A, 7, 0), EXIT)
            one, memory = block(value, launch(1, 4, a=(6,)), 0, 3)
            self.assertEqual(one.step(1, 0), [])
            self.assertEqual(one.step(1, 0), [(A, 0, 3, op)])
            one.step(0, 0)
            self.assertEqual(one.step(0, 0), [(A, 0, thread, op) for thread in (0, 1, 2)])
            self.assertEqual(memory.buffers()[0], (fold(op, (6, 3, 0, 1, 2)),))

    def test_several_parameters_that_are_one_buffer(self):
        value = code(("store", TO_B, 7, 7), EXIT)
        one, _ = block(value, (1, 1, (0, 5, 0), ((1, 2),)))
        self.assertEqual(one.step(0, 0), [(A, 0, 0, "store")])


class FencesTest(BlockCase):
    def test_threads_that_wait_or_end(self):
        for row in (EXIT, ("barrier", 1), ("collect", "add", 0, 0, 1)):
            value = code(("special", 0, "tid"), ("store", TO_A, 0, 0), ("store", TO_A, 7, 0), row, EXIT)
            for room in (1, 2, 3, 4):
                one, memory = block(value, launch(1, 3, a=(9,) * 8), 0, 2, False, room)
                for _ in range(3):
                    one.step(0, 0)
                    one.step(1, 0)
                self.assertEqual(memory.pending(), [0, 1, 2])
                self.assertEqual(one.step(1, 0), [])
                self.assertEqual(memory.pending(), [0, 1])
                self.assertEqual(memory.buffers()[0][0], 2)
                one.step(0, 0)
                # Those of the step drain in ascending order: lane 1 is the last one.
                self.assertEqual((memory.pending(), memory.buffers()[0]), ([], (1, 1, 2) + (9,) * 5))

    def test_only_those_of_the_step(self):
        value = code(("special", 0, "tid"), ("store", TO_A, 0, 0), ("branch", 0, 4, 5), EXIT, ("word", 1, 1), EXIT)
        one, memory = block(value, launch(1, 3), 0, 4, True, 2)
        for _ in range(3):
            one.step(0, 0)
        self.assertEqual(memory.pending(), [0, 1, 2])
        one.step(0, 0)
        self.assertEqual(memory.pending(), [1, 2])

    def test_other_threads_see_the_stores_behind_a_barrier(self):
        value = code(("special", 0, "tid"), ("store", TO_S, 0, 0), ("barrier", 3), ("word", 1, 3), ("binary", "sub", 1, 1, 0),
                     ("load", 2, TO_S, 1), ("store", TO_A, 0, 2), EXIT)
        for room in range(5):
            for width in (1, 2, 3, 4):
                for free in BOTH:
                    one, memory = block(value, launch(1, 4), 0, width, free, room)
                    play(one)
                    self.assertEqual((one.status(), memory.buffers()[0]), ("ended", (3, 2, 1, 0) + (0,) * 4))


class MeetingsTest(BlockCase):
    def test_threads_pass_with_the_step_of_the_last_one(self):
        value = code(("special", 0, "tid"), ("collect", "add", 1, 0, 5), ("barrier", 6), EXIT)
        for free in BOTH:
            one, _ = block(value, launch(1, 5), 0, 2, free)
            for warp in (2, 0, 1):
                one.step(warp, 0)
            one.step(1, 0)
            one.step(0, 0)
            self.assertEqual([one.groups(warp) for warp in range(3)], [0, 0, 1])
            self.assertEqual((one.phase(), one.lanes()), (0, [state(1, tid) for tid in range(5)]))
            self.assertEqual(one.step(2, 0), [])
            self.assertEqual([one.groups(warp) for warp in range(3)], [1, 1, 1])
            self.assertEqual((one.phase(), one.lanes()), (1, [state(2, tid, 10) for tid in range(5)]))
            for warp in range(3):
                one.step(warp, 0)
            self.assertEqual((one.phase(), one.lanes()), (2, [state(3, tid, 10) for tid in range(5)]))
            self.assertEqual(one.status(), "running")

    def test_different_operators_and_barriers_at_one_number(self):
        # By the tid modulo 4: collects with two operators, one of them twice, and a barrier.
        value = code(
            ("special", 0, "tid"), ("word", 1, 1), ("binary", "and", 2, 0, 1), ("word", 1, 2), ("binary", "and", 3, 0, 1),
            ("branch", 2, 10, 15), ("branch", 3, 9, 15), ("collect", "add", 4, 0, 9), EXIT, ("barrier", 9),
            ("branch", 3, 13, 15), ("collect", "max", 4, 0, 9), EXIT, ("collect", "add", 5, 0, 9), EXIT, EXIT,
        )
        for width in (1, 3, 8):
            for free in BOTH:
                one, _ = block(value, launch(1, 8), 0, width, free)
                while one.phase() == 0:
                    warp = [each for each in range(one.warps()) if one.groups(each)][-1]
                    one.step(warp, one.groups(warp) - 1)
                words = [lane[1][4:6] for lane in one.lanes()]
                total = sum((0, 3, 4, 7))
                self.assertEqual(words, [(total, 0), (5, 0), (0, 0), (0, total)] * 2)
                self.assertEqual([lane[0] for lane in one.lanes()], [8, 12, 10, 14] * 2)

    def test_collects_fold(self):
        for op in FOLDING:
            value = code(("special", 0, "tid"), ("load", 1, TO_B, 0), ("collect", op, 2, 1, 0), EXIT)
            words = (6, -3, 12, 5, 7)
            one, _ = block(value, launch(1, 5, b=words), 0, 3)
            while one.phase() == 0:
                one.step(1 if one.groups(1) else 0, 0)
            self.assertEqual([lane[1][2] for lane in one.lanes()], [fold(op, words)] * 5)

    def test_a_register_of_a_barrier_stays(self):
        value = code(("word", 1, 4), ("barrier", 9), EXIT)
        one, _ = block(value, launch(1, 2), 0, 1)
        play(one)
        self.assertEqual(one.lanes(), [state(2, 0, 4)] * 2)

    def test_stuck_at_different_numbers(self):
        value = code(("special", 0, "tid"), ("branch", 0, 3, 4), ("barrier", 1), ("barrier", 2), EXIT)
        for width in (1, 2, 4):
            for free in BOTH:
                one, _ = block(value, launch(1, 3), 0, width, free)
                play(one)
                self.assertEqual((one.status(), one.phase()), ("stuck", 0))
                self.assertEqual([lane[0] for lane in one.lanes()], [2, 3, 3])

    def test_stuck_where_some_have_ended(self):
        value = code(("special", 0, "tid"), ("branch", 0, 3, 4), EXIT, ("barrier", 2), EXIT)
        for width in (1, 2, 4):
            for free in BOTH:
                one, _ = block(value, launch(1, 3), 0, width, free)
                play(one)
                self.assertEqual((one.status(), one.phase()), ("stuck", 0))

    def test_ended(self):
        for free in BOTH:
            one, _ = block(code(("barrier", 0), ("barrier", 0), EXIT), launch(1, 3), 0, 2, free)
            play(one)
            self.assertEqual((one.status(), one.phase()), ("ended", 2))
            self.assertEqual([one.groups(warp) for warp in (0, 1)], [0, 0])

    def test_warps_with_masks_go_on_by_their_indices(self):
        value = code(("special", 0, "tid"), ("branch", 0, 4, 6), ("barrier", 1), EXIT, ("barrier", 1), EXIT, EXIT)
        one, _ = block(value, launch(1, 3), 0, 3)
        for _ in range(4):
            one.step(0, 0)
        self.assertEqual((one.phase(), [lane[0] for lane in one.lanes()]), (1, [3, 5, 5]))
        one.step(0, 0)
        # The lane at the least index was the top.
        self.assertEqual([one.groups(0), one.lanes()[0][0]], [1, 3])
        one.step(0, 0)
        self.assertEqual(one.status(), "ended")


class OwnersTest(BlockCase):
    def test_copies_on_another_memory(self):
        many = 0
        for seed in range(150):
            value, (grid, _, arguments, buffers) = random_code(seed, True), random_launch(seed)
            dice = random.Random(seed)
            start = (grid, dice.randrange(1, 9), arguments, buffers)
            one, memory = block(value, start, dice.randrange(grid), dice.randrange(1, 9), seed % 2 == 0, dice.randrange(5))
            for _ in range(20):
                choices = [(warp, group) for warp in range(one.warps()) for group in range(one.groups(warp))]
                if not choices:
                    break
                memory_of_other = memory.copy()
                other = one.copy(memory_of_other)
                before = copy.deepcopy(self.told(one, memory))
                self.assertEqual(self.told(other, memory_of_other), before)
                choice = dice.choice(choices)
                accesses = other.step(*choice)
                self.assertEqual(self.told(one, memory), before)
                after = copy.deepcopy(self.told(other, memory_of_other))
                self.assertEqual((one.step(*choice), self.told(one, memory)), (accesses, after))
                self.assertEqual(self.told(other, memory_of_other), after)
                many += len(accesses)
        self.assertGreater(many, 200)

    def test_lists_belong_to_the_caller(self):
        value = code(("store", TO_A, 7, 7), EXIT)
        one, memory = block(value, launch(1, 3), 0, 2)
        before = copy.deepcopy(self.told(one, memory))
        one.lanes().clear()
        self.assertEqual(self.told(one, memory), before)
        one.step(0, 0).append(5)
        self.assertEqual(one.step(1, 0), [(A, 0, 2, "store")])


if __name__ == "__main__":
    unittest.main()
