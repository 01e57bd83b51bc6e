"""Point 33: memory with stores that arrive late."""

import copy
import random
import unittest

from drawloom.buffers import Memory
from drawloom.words import FOLDING, binary
from tests.short import launch
from tests.shortcode import EXIT, TO_A, TO_B, TO_S, TO_T, code

CODE = code(EXIT)
START = launch(2, 3, a=(5, 6, 7), b=(8, 9))
# All parameters that are buffers are the one buffer.
ONE_BUFFER = (2, 2, (0, 5, 0), ((5, 6, 7), (1, 2)))


def memory(room, start=START):
    return Memory(CODE, start, room)


class SlowMemory:
    """The memory written a second time, with all queues as one list of stores by their age."""

    def __init__(self, start, room):
        self.start, self.room, self.waiting = start, room, []
        self.words = {(("buffer", k), cell): word for k, row in enumerate(start[3]) for cell, word in enumerate(row)}
        for block in range(start[0]):
            for index, size in enumerate((4, 2)):
                self.words.update({(("shared", block, index), cell): 0 for cell in range(size)})

    def spot(self, thread, array, cell):
        block = thread // self.start[1]
        space = ("buffer", self.start[2][array]) if array < 6 else ("shared", block, array - 6)
        return (space, cell) if (space, cell) in self.words else None

    def load(self, thread, array, cell):
        spot = self.spot(thread, array, cell)
        own = [word for other, where, word in self.waiting if (other, where) == (thread, spot)]
        return (own or [self.words.get(spot, 0)])[-1]

    def store(self, thread, array, cell, word):
        spot = self.spot(thread, array, cell)
        if spot is None:
            return False
        self.waiting.append((thread, spot, word))
        if len([row for row in self.waiting if row[0] == thread]) > self.room:
            self.drain(thread)
        return True

    def atomic(self, thread, op, array, cell, word):
        spot = self.spot(thread, array, cell)
        if spot is None:
            return False
        self.fence(thread)
        self.words[spot] = binary(op, self.words[spot], word)
        return True

    def drain(self, thread):
        own = [row for row in self.waiting if row[0] == thread]
        if own:
            self.waiting.remove(own[0])
            self.words[own[0][1]] = own[0][2]
        return bool(own)

    def fence(self, thread):
        return sum(self.drain(thread) for _ in range(len(self.waiting)))

    def pending(self):
        return sorted({row[0] for row in self.waiting})

    def buffers(self):
        return tuple(
            tuple(self.words[("buffer", k), cell] for cell in range(len(row))) for k, row in enumerate(self.start[3])
        )


class MemoryTest(unittest.TestCase):
    def test_before_everything(self):
        for room in range(5):
            one = memory(room)
            self.assertEqual(one.buffers(), ((5, 6, 7), (8, 9)))
            self.assertEqual(one.pending(), [])
            for thread in range(6):
                self.assertEqual([one.load(thread, TO_A, cell) for cell in range(3)], [5, 6, 7])
                self.assertEqual([one.load(thread, TO_B, cell) for cell in range(2)], [8, 9])
                self.assertEqual([one.load(thread, TO_S, cell) for cell in range(4)], [0] * 4)
                self.assertEqual([one.load(thread, TO_T, cell) for cell in range(2)], [0] * 2)

    def test_room_0_stores_at_once(self):
        one = memory(0)
        self.assertIs(one.store(1, TO_A, 2, 70), True)
        self.assertEqual((one.buffers(), one.pending()), (((5, 6, 70), (8, 9)), []))
        self.assertEqual([one.load(thread, TO_A, 2) for thread in range(6)], [70] * 6)
        self.assertIs(one.drain(1), False)
        self.assertEqual(one.fence(1), 0)

    def test_a_thread_sees_its_own_stores(self):
        for room in range(1, 5):
            one = memory(room)
            self.assertIs(one.store(1, TO_A, 2, 70), True)
            self.assertEqual([one.load(thread, TO_A, 2) for thread in range(6)], [7, 70, 7, 7, 7, 7])
            self.assertEqual((one.buffers(), one.pending()), (((5, 6, 7), (8, 9)), [1]))
            self.assertEqual([one.load(1, array, cell) for array, cell in ((TO_A, 1), (TO_B, 0), (TO_S, 2))], [6, 8, 0])

    def test_the_youngest_store_to_the_cell(self):
        one = memory(4)
        for cell, word in ((0, 1), (1, 2), (0, 3), (1, 4)):
            one.store(2, TO_A, cell, word)
        self.assertEqual([one.load(2, TO_A, cell) for cell in range(3)], [3, 4, 7])
        self.assertEqual(one.load(0, TO_A, 0), 5)
        for expected in ((1, 6, 7), (1, 2, 7), (3, 2, 7), (3, 4, 7)):
            self.assertIs(one.drain(2), True)
            self.assertEqual(one.buffers()[0], expected)
            self.assertEqual([one.load(2, TO_A, cell) for cell in range(3)], [3, 4, 7])
        self.assertIs(one.drain(2), False)
        self.assertEqual(one.pending(), [])

    def test_a_store_to_a_full_queue_drains_once(self):
        for room in range(1, 5):
            one = memory(room, launch(a=(0,) * 8))
            for cell in range(7):
                self.assertIs(one.store(0, TO_A, cell, cell + 1), True)
                done = max(0, cell + 1 - room)
                self.assertEqual(one.buffers()[0], tuple(range(1, done + 1)) + (0,) * (8 - done))
            self.assertEqual(one.fence(0), room)
            self.assertEqual(one.buffers()[0], (1, 2, 3, 4, 5, 6, 7, 0))

    def test_queues_are_each_threads_own(self):
        one = memory(1)
        for thread in (4, 0, 2):
            one.store(thread, TO_A, 0, thread)
        self.assertEqual((one.pending(), one.buffers()[0][0]), ([0, 2, 4], 5))
        self.assertEqual([one.load(thread, TO_A, 0) for thread in range(6)], [0, 5, 2, 5, 4, 5])
        one.drain(2)
        self.assertEqual((one.pending(), one.buffers()[0][0]), ([0, 4], 2))
        one.drain(0)
        self.assertEqual((one.pending(), one.buffers()[0][0]), ([4], 0))
        self.assertEqual(one.load(4, TO_A, 0), 4)

    def test_a_fence_drains_all(self):
        one = memory(3)
        for cell in range(3):
            one.store(3, TO_A, cell, 10 + cell)
        one.store(1, TO_B, 0, 90)
        self.assertEqual(one.fence(3), 3)
        self.assertEqual((one.buffers(), one.pending()), (((10, 11, 12), (8, 9)), [1]))
        self.assertEqual(one.fence(3), 0)
        self.assertEqual(one.fence(0), 0)
        self.assertEqual(one.fence(1), 1)
        self.assertEqual(one.buffers()[1], (90, 9))

    def test_an_atomic_drains_the_own_queue_and_is_done(self):
        for op in FOLDING:
            one = memory(4)
            one.store(0, TO_A, 0, 12)
            one.store(0, TO_B, 1, 13)
            one.store(1, TO_A, 0, 99)
            self.assertIs(one.atomic(0, op, TO_A, 0, 10), True)
            self.assertEqual(one.buffers(), ((binary(op, 12, 10), 6, 7), (8, 13)))
            self.assertEqual(one.pending(), [1])
            self.assertEqual(one.load(1, TO_A, 0), 99)
            self.assertIs(one.atomic(2, op, TO_S, 3, -1), True)
            self.assertEqual((one.load(0, TO_S, 3), one.load(3, TO_S, 3)), (binary(op, 0, -1), 0))

    def test_cells_that_are_not_there(self):
        for room in range(5):
            one = memory(room)
            one.store(0, TO_A, 0, 3)
            before = (one.buffers(), one.pending())
            for array, cell in (
                (TO_A, 3), (TO_A, -1), (TO_B, 2), (TO_S, 4), (TO_T, 2), (TO_T, -1), (TO_A, 2 ** 31 - 1), (TO_B, -2 ** 31),
            ):
                self.assertEqual(one.load(0, array, cell), 0)
                self.assertIs(one.store(0, array, cell, 4), False)
                # Nothing is drained either.
                self.assertIs(one.atomic(0, "add", array, cell, 4), False)
                self.assertIsNone(one.spot(0, array, cell))
                self.assertEqual(one.load(0, array, cell), 0)
                self.assertEqual((one.buffers(), one.pending()), before)
            self.assertEqual(one.fence(0), min(room, 1))

    def test_a_store_that_is_not_there_does_not_drain_a_full_queue(self):
        one = memory(1)
        one.store(0, TO_A, 0, 3)
        self.assertIs(one.store(0, TO_A, 9, 4), False)
        self.assertEqual(one.buffers()[0], (5, 6, 7))

    def test_spots(self):
        one = memory(2)
        for thread in range(6):
            self.assertEqual(one.spot(thread, TO_A, 2), (("buffer", 0), 2))
            self.assertEqual(one.spot(thread, TO_B, 1), (("buffer", 1), 1))
            self.assertEqual(one.spot(thread, TO_S, 3), (("shared", thread // 3, 0), 3))
            self.assertEqual(one.spot(thread, TO_T, 0), (("shared", thread // 3, 1), 0))
        self.assertEqual(memory(2, ONE_BUFFER).spot(0, TO_B, 2), (("buffer", 0), 2))
        other = (1, 1, (1, 5, 0), ((5,), (1, 2)))
        self.assertEqual(memory(2, other).spot(0, TO_A, 1), (("buffer", 1), 1))
        self.assertIsNone(memory(2, other).spot(0, TO_B, 1))

    def test_shared_arrays_of_each_block(self):
        for room in (0, 2):
            one = memory(room)
            one.store(1, TO_S, 0, 4)
            one.store(4, TO_S, 0, 5)
            one.store(4, TO_T, 0, 6)
            for thread in (1, 4):
                one.fence(thread)
            self.assertEqual([one.load(thread, TO_S, 0) for thread in range(6)], [4, 4, 4, 5, 5, 5])
            self.assertEqual([one.load(thread, TO_T, 0) for thread in range(6)], [0, 0, 0, 6, 6, 6])
            self.assertEqual(one.buffers(), START[3])

    def test_several_parameters_that_are_one_buffer(self):
        one = memory(2, ONE_BUFFER)
        one.store(0, TO_A, 1, 40)
        self.assertEqual((one.load(0, TO_B, 1), one.load(1, TO_B, 1)), (40, 6))
        one.store(0, TO_B, 1, 41)
        self.assertEqual(one.load(0, TO_A, 1), 41)
        one.atomic(0, "add", TO_B, 1, 1)
        self.assertEqual((one.load(3, TO_A, 1), one.buffers()), (42, ((5, 42, 7), (1, 2))))

    def test_stores_and_their_words_by_random(self):
        many = 0
        for seed in range(150):
            dice = random.Random(seed)
            start = dice.choice((START, ONE_BUFFER))
            room = dice.randrange(5)
            one, slow = memory(room, start), SlowMemory(start, room)
            for _ in range(80):
                thread = dice.randrange(start[0] * start[1])
                where = (thread, dice.choice((TO_A, TO_B, TO_S, TO_T)), dice.randrange(-1, 4))
                word = dice.randrange(-9, 10)
                kind = dice.randrange(8)
                if kind <= 2:
                    told = [each.store(*where, word) for each in (one, slow)]
                elif kind == 3:
                    op = dice.choice(FOLDING)
                    told = [each.atomic(thread, op, *where[1:], word) for each in (one, slow)]
                elif kind == 4:
                    told = [each.drain(thread) for each in (one, slow)]
                elif kind == 5 and dice.random() < 0.3:
                    told = [each.fence(thread) for each in (one, slow)]
                elif kind == 6:
                    told = [each.spot(*where) for each in (one, slow)]
                else:
                    told = [each.load(*where) for each in (one, slow)]
                self.assertEqual(told[0], told[1])
                self.assertIs(type(told[0]), type(told[1]))
                self.assertEqual((one.buffers(), one.pending()), (slow.buffers(), slow.pending()))
                many += len(one.pending())
        self.assertGreater(many, 10000)


class OwnersTest(unittest.TestCase):
    def told(self, one):
        words = [one.load(thread, array, cell) for thread in range(6) for array in (0, 2, 6, 7) for cell in range(4)]
        return (words, one.buffers(), one.pending())

    def test_copies_go_on_alike_and_change_nothing(self):
        for room in range(5):
            one = memory(room)
            for cell in range(3):
                one.store(1, TO_A, cell, 20 + cell)
                one.store(4, TO_S, cell, 30 + cell)
            other = one.copy()
            before = self.told(one)
            self.assertEqual(self.told(other), before)
            for change in (
                lambda each: each.store(1, TO_A, 0, 50), lambda each: each.drain(4), lambda each: each.store(4, TO_T, 1, 9),
                lambda each: each.atomic(1, "add", TO_B, 0, 3), lambda each: each.fence(4),
                lambda each: each.store(0, TO_B, 1, -5),
            ):
                old = self.told(one)
                result = change(other)
                self.assertEqual(self.told(one), old)
                new = self.told(other)
                self.assertEqual((change(one), self.told(one)), (result, new))
                self.assertEqual(self.told(other), new)
            self.assertNotEqual(self.told(one), before)

    def test_lists_belong_to_the_caller_and_the_launch_stays(self):
        start = copy.deepcopy(START)
        one = memory(2, start)
        one.store(0, TO_A, 0, 1)
        one.pending().clear()
        self.assertEqual(one.pending(), [0])
        one.fence(0)
        self.assertEqual(start, START)
        self.assertIs(type(one.buffers()), tuple)
        self.assertEqual({type(row) for row in one.buffers()}, {tuple})


if __name__ == "__main__":
    unittest.main()
