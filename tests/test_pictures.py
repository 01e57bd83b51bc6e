"""Point 39 and point 1: pictures of machines, machines that are made from them, and copies."""

import copy
import random
import unittest

from drawloom.machines import Machine, restored
from tests.randoms import random_code, random_launch, random_shape
from tests.short import A, launch
from tests.shortcode import EXIT, TO_A, TO_B, TO_S, code


def told(one):
    return (one.actions(), one.end(), one.memory(), one.places(), one.accesses(), one.races(), one.picture())


def is_plain(value):
    """Tell whether a value is made of integers, strings, None, True, False and tuples."""
    if type(value) is tuple:
        return all(is_plain(part) for part in value)
    return value is None or type(value) in (int, str, bool)


def act(one, *action):
    one.act(one.actions().index(action))


class PictureCase(unittest.TestCase):
    def others(self, one, value, start, shape):
        """Return machines that are to behave as one: a copy, and some that are made from pictures."""
        picture = one.picture()
        self.assertTrue(is_plain(picture))
        before = told(one)
        found = [one.copy(), restored(value, start, shape, picture)]
        found.append(restored(value, start, shape, found[0].picture()))
        for other in found:
            self.assertIs(type(other), Machine)
            self.assertEqual(told(other), before)
        self.assertEqual((told(one), one.picture()), (before, picture))
        return found

    def alike(self, one, value, start, shape, indices):
        """Check that others do the same as one in a number of actions, and none changes another one."""
        others = self.others(one, value, start, shape)
        for index in indices:
            many = len(one.actions())
            if many == 0:
                break
            for other in others:
                before = copy.deepcopy(told(one))
                other.act(index % many)
                self.assertEqual(told(one), before)
            one.act(index % many)
            for other in others:
                self.assertEqual(told(other), told(one))


class InTheMiddleTest(PictureCase):
    def test_before_the_first_action(self):
        for seed in range(30):
            value, start, shape = random_code(seed, True), random_launch(seed), random_shape(seed)
            self.alike(Machine(value, start, shape), value, start, shape, [0, 0, 1, 0, 5])

    def test_divergence(self):
        value = code(("special", 0, "tid"), ("word", 1, 1), ("branch", 0, 4, 7), ("jump", 7), ("binary", "sub", 0, 0, 1),
                     ("store", TO_A, 0, 1), ("jump", 2), ("store", TO_B, 1, 1), EXIT)
        for free in (False, True):
            shape, start = (4, free, 2, 1, 2), launch(2, 4)
            one = Machine(value, start, shape)
            act(one, "place", 0, 1)
            for many in range(18):
                self.alike(one, value, start, shape, [1, 0, 2] if free else [0])

    def test_waits(self):
        value = code(("special", 0, "tid"), ("store", TO_S, 0, 0), ("collect", "add", 1, 0, 5), ("load", 2, TO_S, 1),
                     ("barrier", 3), ("store", TO_A, 0, 2), EXIT)
        for free in (False, True):
            shape, start = (1, free, 1, 2, 1), launch(2, 3)
            one = Machine(value, start, shape)
            for _ in range(30):
                self.alike(one, value, start, shape, [0, 1])
            self.alike(one, value, start, shape, [0] * 50)
            self.assertEqual(one.end(), "ok")

    def test_queues(self):
        value = code(("special", 0, "tid"), ("store", TO_A, 0, 0), ("store", TO_A, 7, 0), ("load", 1, TO_A, 7), EXIT)
        for room in range(5):
            shape, start = (2, False, 1, 1, room), launch(1, 3, a=(9,) * 4)
            one = Machine(value, start, shape)
            for _ in range(3):
                self.alike(one, value, start, shape, [0])
            self.alike(one, value, start, shape, [-2, 0, -2, 0, -2, 0, 0, 0, 0, 0, 0, 0])

    def test_behind_the_end(self):
        stuck = code(("special", 0, "tid"), ("branch", 0, 3, 4), ("barrier", 1), EXIT)
        for value, end in ((code(("store", TO_A, 7, 7), EXIT), "ok"), (stuck, "stuck"), (code(("jump", 0)), "fuel")):
            shape, start = (1, True, 2, 1, 1), launch(1, 2)
            one = Machine(value, start, shape)
            while one.end() == "":
                one.act(0)
            self.assertEqual(one.end(), end)
            for other in self.others(one, value, start, shape):
                self.assertEqual((other.end(), other.actions()), (end, []))

    def test_the_instructions_that_a_lane_has_done(self):
        value, shape, start = code(("jump", 0)), (1, False, 1, 1, 0), launch()
        one = Machine(value, start, shape)
        for _ in range(20000):
            one.act(0)
        others = self.others(one, value, start, shape)
        for each in [one] + others:
            self.assertEqual(each.end(), "")
            each.act(0)
            self.assertEqual(each.end(), "")
            each.act(0)
            self.assertEqual(each.end(), "fuel")

    def test_earlier_accesses_and_races(self):
        value = code(("special", 0, "tid"), ("load", 1, TO_A, 7), ("store", TO_A, 7, 0), ("store", TO_A, 0, 0), EXIT)
        shape, start = (1, False, 1, 1, 1), launch(1, 3)
        one = Machine(value, start, shape)
        for action in (("place", 0, 0),) + (("step", 0, 1, 0),) * 2:
            act(one, *action)
        for other in self.others(one, value, start, shape):
            for _ in range(3):
                act(other, "step", 0, 0, 0)
            self.assertEqual(other.races(), [((A, 0, 1, "load", 2), (A, 0, 0, "store", 5))])
            # A cell has one race only, also if it was told before the picture.
            for each in (other.copy(), restored(value, start, shape, other.picture())):
                act(each, "step", 0, 1, 0)
                self.assertEqual(each.races(), other.races())
        self.assertEqual(one.races(), [])

    def test_a_machine_of_each_shape(self):
        value = code(("special", 0, "bid"), ("store", TO_A, 0, 0), ("barrier", 1), ("atomic", "add", TO_B, 7, 0), EXIT)
        for seed in range(60):
            shape, start = random_shape(seed), launch(3, 5)
            self.alike(Machine(value, start, shape), value, start, shape, range(40))


class RandomTest(PictureCase):
    def test_random_machines(self):
        ends = {}
        for seed in range(120):
            grid, _, arguments, buffers = random_launch(seed)
            dice = random.Random(seed)
            start = (grid, dice.randrange(1, 9), arguments, buffers)
            value, shape = random_code(seed, seed % 3 > 0), random_shape(seed, dice.randrange(1, 5))
            one = Machine(value, start, shape)
            for _ in range(dice.randrange(40)):
                if one.actions():
                    one.act(dice.randrange(len(one.actions())))
            self.alike(one, value, start, shape, [dice.randrange(50) if dice.random() < 0.5 else 0 for _ in range(20)])
            ends[one.end()] = ends.get(one.end(), 0) + 1
        self.assertGreater(ends["ok"], 10, ends)
        self.assertGreater(ends[""], 10, ends)

    def test_a_picture_is_no_part_of_the_machine(self):
        for seed in range(40):
            value, start, shape = random_code(seed, True), random_launch(seed), random_shape(seed)
            one = Machine(value, start, shape)
            for _ in range(12):
                picture, kept = one.picture(), copy.deepcopy(one.picture())
                if not one.actions():
                    break
                one.act(0)
                self.assertEqual(picture, kept)
                # It can be used again and again.
                for _ in range(2):
                    other = restored(value, start, shape, picture)
                    other.act(0)
                    self.assertEqual(told(other), told(one))
                self.assertEqual(picture, kept)


if __name__ == "__main__":
    unittest.main()
