"""Points 35 to 37: machines, their actions, and runs by turns."""

import copy
import random
import unittest

from drawloom.errors import NotReady
from drawloom.machines import MOST_STEPS, Machine, run_machine
from tests.randoms import random_code, random_launch, random_shape, random_turns
from tests.short import A, B, launch
from tests.shortcode import EXIT, TO_A, TO_B, TO_S, TO_T, code
from tests.slow_machine import SlowMachine

NOTHING = (0,) * 8
LONG = code(("word", 0, 1), ("word", 1, 1), ("barrier", 1), EXIT)


def machine(value, start, width=8, free=False, cores=1, slots=1, room=0):
    return Machine(value, start, (width, free, cores, slots, room))


def act(one, *action):
    """Do an action of a machine."""
    one.act(one.actions().index(action))


def acts(one, *actions):
    for action in actions:
        act(one, *action)


def finish(one):
    while one.actions():
        one.act(0)


class MachineCase(unittest.TestCase):
    def told(self, one):
        return (one.actions(), one.end(), one.memory(), one.places(), one.accesses(), one.races())

    def not_ready(self, one, index):
        before = self.told(one)
        with self.assertRaises(NotReady) as caught:
            one.act(index)
        self.assertIs(type(caught.exception), NotReady)
        self.assertEqual(self.told(one), before)


class ActionsTest(MachineCase):
    def test_the_first_ones(self):
        for grid in range(1, 5):
            for cores in range(1, 5):
                for slots in range(1, 5):
                    one = machine(LONG, launch(grid, 2), 1, True, cores, slots, 4)
                    self.assertEqual(one.actions(), [("place", 0, core) for core in range(cores)])
                    self.assertEqual((one.places(), one.end(), one.accesses(), one.races()), ((-1,) * grid, "", [], []))
                    self.assertEqual(one.memory(), (NOTHING, NOTHING))

    def test_placing(self):
        one = machine(LONG, launch(4, 1), cores=2, slots=2)
        act(one, "place", 0, 1)
        self.assertEqual(one.places(), (1, -1, -1, -1))
        self.assertEqual(one.actions(), [("place", 1, 0), ("place", 1, 1), ("step", 0, 0, 0), ("aside", 0)])
        act(one, "place", 1, 1)
        # The core 1 has no free slot any more.
        self.assertEqual(one.actions(), [
            ("place", 2, 0), ("step", 0, 0, 0), ("step", 1, 0, 0), ("aside", 0), ("aside", 1)])
        acts(one, ("place", 2, 0), ("place", 3, 0))
        self.assertEqual(one.places(), (1, 1, 0, 0))
        self.assertEqual(one.actions(), [("step", block, 0, 0) for block in range(4)] + [("aside", k) for k in range(4)])

    def test_the_least_block_that_is_not_on_a_core_and_not_ended(self):
        one = machine(LONG, launch(4, 1), cores=2, slots=2)
        acts(one, ("place", 0, 0), ("place", 1, 0), ("place", 2, 1), ("aside", 1))
        self.assertEqual([row for row in one.actions() if row[0] == "place"], [("place", 1, 0), ("place", 1, 1)])
        acts(one, ("place", 1, 1), *[("step", 0, 0, 0)] * 4)
        self.assertEqual(one.places(), (-1, 1, 1, -1))
        self.assertEqual([row for row in one.actions() if row[0] == "place"], [("place", 3, 0)])

    def test_all_kinds_in_their_order(self):
        value = code(("special", 0, "tid"), ("store", TO_A, 0, 0), ("branch", 0, 4, 5), ("word", 1, 1), ("word", 1, 2), EXIT)
        one = machine(value, launch(3, 3), 2, True, 2, 1, 2)
        acts(one, ("place", 0, 1), ("place", 1, 0), *[("step", 1, 0, 0)] * 3, ("step", 0, 1, 0), ("step", 0, 1, 0))
        steps = [("step", 0, 0, 0), ("step", 0, 1, 0), ("step", 1, 0, 0), ("step", 1, 0, 1), ("step", 1, 1, 0)]
        drains = [("drain", 2), ("drain", 3), ("drain", 4)]
        self.assertEqual(one.actions(), steps + drains + [("aside", 0), ("aside", 1)])
        act(one, "aside", 0)
        # The stores of a block that is put aside can be drained, too.
        self.assertEqual(one.actions(), [("place", 0, 1)] + steps[2:] + drains + [("aside", 1)])
        act(one, "drain", 2)
        self.assertEqual(one.memory()[0][:3], (0, 0, 2))
        self.assertEqual(one.actions(), [("place", 0, 1)] + steps[2:] + drains[1:] + [("aside", 1)])

    def test_drains(self):
        value = code(("store", TO_A, 7, 7), ("word", 1, 1), ("store", TO_A, 1, 1), ("word", 2, 2), EXIT)
        one = machine(value, launch(1, 1, a=(9, 9)), room=2)
        acts(one, ("place", 0, 0), *[("step", 0, 0, 0)] * 3)
        self.assertEqual(one.memory()[0], (9, 9))
        act(one, "drain", 0)
        self.assertEqual((one.memory()[0], one.actions()), ((0, 9), [("step", 0, 0, 0), ("drain", 0), ("aside", 0)]))
        act(one, "drain", 0)
        self.assertEqual((one.memory()[0], one.actions()), ((0, 1), [("step", 0, 0, 0), ("aside", 0)]))

    def test_a_block_leaves_its_core_when_it_is_ended(self):
        one = machine(code(EXIT), launch(2, 3), 2)
        acts(one, ("place", 0, 0), ("step", 0, 1, 0))
        self.assertEqual(one.actions(), [("step", 0, 0, 0), ("aside", 0)])
        act(one, "step", 0, 0, 0)
        self.assertEqual((one.places(), one.actions()), ((-1, -1), [("place", 1, 0)]))
        finish(one)
        self.assertEqual((one.places(), one.end()), ((-1, -1), "ok"))

    def test_a_block_that_is_put_aside_keeps_its_state(self):
        value = code(("special", 0, "tid"), ("store", TO_S, 0, 0), ("barrier", 1), ("load", 1, TO_S, 0), ("store", TO_A, 0, 1),
                     EXIT)
        one = machine(value, launch(1, 3), 1, False, 2, 1, 1)
        acts(one, ("place", 0, 1), ("step", 0, 0, 0), ("step", 0, 0, 0), ("step", 0, 1, 0), ("aside", 0))
        self.assertEqual((one.places(), one.end()), ((-1,), ""))
        self.assertEqual(one.actions(), [("place", 0, 0), ("place", 0, 1), ("drain", 0)])
        acts(one, ("place", 0, 0), ("aside", 0), ("place", 0, 1))
        self.assertEqual(one.places(), (1,))
        finish(one)
        self.assertEqual((one.end(), one.memory()[0][:4], one.races()), ("ok", (0, 1, 2, 0), []))

    def test_widths_and_free(self):
        value = code(("special", 0, "tid"), ("branch", 0, 3, 3), ("word", 1, 1), EXIT)
        for width in range(1, 9):
            for free in (False, True):
                one = machine(value, launch(1, 8), width, free)
                act(one, "place", 0, 0)
                many = (8 + width - 1) // width
                self.assertEqual(one.actions(), [("step", 0, warp, 0) for warp in range(many)] + [("aside", 0)])
                acts(one, ("step", 0, 0, 0), ("step", 0, 0, 0))
                both = [("step", 0, 0, 1)] if free and width > 1 else []
                rest = [("step", 0, warp, 0) for warp in range(1, many)]
                self.assertEqual(one.actions(), [("step", 0, 0, 0)] + both + rest + [("aside", 0)])

    def test_indices_that_are_not_there(self):
        one = machine(LONG, launch(2, 1), cores=3)
        for index in (-1, 3, 4, 1000):
            self.not_ready(one, index)
        one.act(2)
        self.assertEqual(one.places(), (2, -1))
        finish(one)
        for index in (-1, 0, 1):
            self.not_ready(one, index)


class EndTest(MachineCase):
    def test_ok(self):
        for room in range(5):
            one = machine(code(("store", TO_A, 7, 7), EXIT), launch(3, 2, a=(5,)), 1, False, 2, 1, room)
            for _ in range(20):
                self.assertEqual(one.end(), "")
                one.act(len(one.actions()) // 2)
            finish(one)
            self.assertEqual((one.end(), one.actions(), one.memory()[0], one.places()), ("ok", [], (0,), (-1, -1, -1)))

    def test_stuck(self):
        value = code(("special", 0, "tid"), ("branch", 0, 3, 4), ("barrier", 1), ("barrier", 2), EXIT)
        one = machine(value, launch(1, 2), 1, cores=2)
        acts(one, ("place", 0, 1), *[("step", 0, 0, 0)] * 3, *[("step", 0, 1, 0)] * 2)
        self.assertEqual(one.end(), "")
        act(one, "step", 0, 1, 0)
        self.assertEqual((one.end(), one.actions(), one.places()), ("stuck", [], (1,)))
        self.not_ready(one, 0)

    def test_not_stuck_while_a_block_can_be_placed(self):
        # The threads of block 1 end; one of block 0 does so, too, and the other one waits.
        value = code(("special", 0, "bid"), ("branch", 0, 5, 5), ("special", 1, "tid"), ("branch", 1, 5, 5), ("barrier", 2),
                     EXIT)
        one = machine(value, launch(2, 2), 2, cores=1, slots=2)
        act(one, "place", 0, 0)
        while ("step", 0, 0, 0) in one.actions():
            act(one, "step", 0, 0, 0)
        self.assertEqual((one.end(), one.actions()), ("", [("place", 1, 0), ("aside", 0)]))
        acts(one, ("aside", 0))
        self.assertEqual((one.end(), one.actions()), ("", [("place", 0, 0)]))
        acts(one, ("place", 0, 0), ("place", 1, 0))
        finish(one)
        self.assertEqual((one.end(), one.places()), ("stuck", (0, -1)))

    def test_stuck_where_no_slot_is_left(self):
        value = code(("special", 1, "tid"), ("branch", 1, 3, 3), ("barrier", 2), EXIT)
        self.assertEqual(run_machine(value, launch(3, 2), (8, False, 1, 1, 2), [])[0], "stuck")
        one = machine(value, launch(3, 2))
        finish(one)
        self.assertEqual(one.places(), (0, -1, -1))

    def test_a_store_in_a_queue_is_no_matter_of_a_stuck_block(self):
        # Threads that wait have done a fence.
        value = code(("special", 1, "tid"), ("branch", 1, 4, 4), ("store", TO_A, 1, 2), ("barrier", 2), EXIT)
        one = machine(value, launch(1, 2), room=4)
        finish(one)
        self.assertEqual(one.end(), "stuck")


class FuelTest(MachineCase):
    def counted(self, more, *rows):
        """Return code of which a thread does so many instructions and 19,998, and then these ones."""
        return code(*[("word", 7, 0)] * more, ("word", 0, 9998), ("word", 1, 1), ("binary", "sub", 0, 0, 1),
                    ("branch", 0, more + 2, more + 4), *rows)

    def test_the_number(self):
        self.assertEqual(MOST_STEPS, 20000)

    def test_exactly_as_many_and_one_more(self):
        for start, shape in ((launch(), (1, False, 1, 1, 0)), (launch(1, 2), (2, True, 1, 1, 3))):
            self.assertEqual(run_machine(self.counted(1, EXIT), start, shape, [])[0], "ok")
            self.assertEqual(run_machine(self.counted(2, EXIT), start, shape, [])[0], "fuel")

    def test_the_step_has_no_other_effect(self):
        one = machine(self.counted(1, ("store", TO_A, 7, 1), ("store", TO_A, 7, 1), EXIT), launch(1, 1), room=1)
        act(one, "place", 0, 0)
        for _ in range(20000):
            one.act(0)
        self.assertEqual((one.end(), one.accesses()), ("", [((A, 0, 0, "store", 20000), 0, 0)]))
        self.assertEqual(one.actions(), [("step", 0, 0, 0), ("drain", 0), ("aside", 0)])
        one.act(0)
        self.assertEqual((one.end(), one.actions(), one.memory()[0], one.places()), ("fuel", [], NOTHING, (0,)))
        self.assertEqual((one.accesses(), one.races()), ([], []))
        self.not_ready(one, 0)

    def test_waiting_is_an_instruction(self):
        for rows, end in (((("barrier", 1), EXIT), "fuel"), ((("barrier", 1), ("jump", 3)), "fuel"), ((EXIT,), "ok")):
            self.assertEqual(run_machine(self.counted(1, *rows), launch(1, 2), (1, False, 1, 1, 0), [])[0], end)

    def test_one_lane_is_enough(self):
        # Lane 1 ends at once, lane 0 goes round; both are in one warp, or in two.
        value = code(("special", 0, "tid"), ("branch", 0, 3, 3), ("jump", 2), EXIT)
        for width in (1, 2):
            for free in (False, True):
                self.assertEqual(run_machine(value, launch(1, 2), (width, free, 1, 1, 0), [])[0], "fuel")
                one = machine(value, launch(2, 2), width, free)
                finish(one)
                self.assertEqual((one.end(), one.places()), ("fuel", (0, -1)))

    def test_other_blocks_have_their_own(self):
        value = code(("special", 0, "bid"), ("branch", 0, 3, 3), ("jump", 2), EXIT)
        self.assertEqual(run_machine(value, launch(2, 1), (1, False, 2, 1, 0), [1, 3, 3, 3, 3])[0], "fuel")


class TurnsTest(MachineCase):
    VALUE = code(("special", 0, "bid"), ("store", TO_A, 7, 0), EXIT)

    def test_none(self):
        self.assertEqual(
            run_machine(self.VALUE, launch(3, 1), (1, False, 1, 1, 0), []),
            ("ok", ((2,) + (0,) * 7, NOTHING), [((A, 0, 0, "store", 2), (A, 0, 1, "store", 6))]))

    def test_negative_and_great_ones(self):
        # -1 is the last action: with one block on a core that is to put it aside.
        one = machine(self.VALUE, launch(2, 1), cores=2)
        acts(one, ("place", 0, 1), ("aside", 0), ("place", 0, 1), ("step", 0, 0, 0), ("place", 1, 0), ("step", 1, 0, 0),
             ("step", 1, 0, 0), ("step", 0, 0, 0))
        finish(one)
        self.assertEqual((one.memory()[0][0], one.races()), (0, [((A, 0, 1, "store", 6), (A, 0, 0, "store", 7))]))
        for turns in ([-1, -1, 5, 7, 15, 401, -3, 4], [1, 2, 1, 1, 0, 1, 1, 0]):
            self.assertEqual(
                run_machine(self.VALUE, launch(2, 1), (8, False, 2, 1, 0), turns), (one.end(), one.memory(), one.races()))

    def test_the_same_as_a_machine_that_does_the_same(self):
        for seed in range(150):
            value, start, shape = random_code(seed, True), random_launch(seed), random_shape(seed)
            for turns in (random_turns(seed, 40), random_turns(seed + 1, 3), [-1] * 30, [10 ** 20, -10 ** 20] * 9):
                one = Machine(value, start, shape)
                for turn in turns:
                    if one.end() == "":
                        one.act(turn % len(one.actions()))
                endless = self.is_endless(one)
                if not endless:
                    finish(one)
                    self.assertEqual(
                        run_machine(value, start, shape, turns), (one.end(), one.memory(), one.races()), seed)

    def is_endless(self, one):
        other = one.copy()
        for _ in range(400):
            if not other.actions():
                return False
            other.act(0)
        return True

    def test_more_turns_than_are_needed(self):
        short = run_machine(code(EXIT), launch(), (1, False, 1, 1, 0), [])
        self.assertEqual(short, ("ok", (NOTHING, NOTHING), []))
        self.assertEqual(run_machine(code(EXIT), launch(), (1, False, 1, 1, 0), [0] * 1000), short)

    def test_putting_aside_again_and_again(self):
        turns = [0, -1] * 100
        self.assertEqual(run_machine(self.VALUE, launch(1, 1), (1, False, 1, 1, 3), turns)[0], "ok")

    def test_kinds_of_values(self):
        result = run_machine(self.VALUE, launch(2, 1), (1, False, 1, 1, 0), [3])
        self.assertEqual([type(part) for part in result], [str, tuple, list])


class AccessesTest(MachineCase):
    def test_each_kind_of_action(self):
        value = code(("special", 0, "tid"), ("store", TO_S, 0, 0), ("barrier", 4), ("load", 1, TO_S, 7),
                     ("atomic", "max", TO_B, 0, 0), EXIT)
        one = machine(value, launch(2, 2), 2, room=2)
        found = []
        for index in (0, 0, 0, 1, 0, 0, 0, 0) + (0,) * 7:
            kind = one.actions()[index][0]
            one.act(index)
            found.append(one.accesses() or kind)
        spaces = (("shared", 0, 0), ("shared", 1, 0))
        self.assertEqual(found, [
            "place", "step", [((spaces[0], k, k, "store", 2), 0, 0) for k in (0, 1)], "drain", "step",
            [((spaces[0], 0, k, "load", 5), 0, 1) for k in (0, 1)], [((B, k, k, "max", 6), 0, 1) for k in (0, 1)], "step",
            "place", "step", [((spaces[1], k, 2 + k, "store", 10), 1, 0) for k in (0, 1)], "step",
            [((spaces[1], 0, 2 + k, "load", 12), 1, 1) for k in (0, 1)],
            [((B, k, 2 + k, "max", 13), 1, 1) for k in (0, 1)], "step",
        ])
        self.assertEqual((one.end(), one.races()), ("ok", []))

    def test_drains_and_asides_are_numbered_too(self):
        value = code(("store", TO_A, 7, 7), ("load", 1, TO_B, 7), EXIT)
        one = machine(value, launch(1, 1), room=1)
        acts(one, ("place", 0, 0), ("aside", 0), ("place", 0, 0), ("step", 0, 0, 0))
        self.assertEqual(one.accesses(), [((A, 0, 0, "store", 3), 0, 0)])
        act(one, "drain", 0)
        self.assertEqual(one.accesses(), [])
        act(one, "step", 0, 0, 0)
        self.assertEqual(one.accesses(), [((B, 0, 0, "load", 5), 0, 0)])
        act(one, "aside", 0)
        self.assertEqual(one.accesses(), [])

    def test_where_no_cell_is(self):
        value = code(("word", 0, -1), ("store", TO_T, 0, 0), ("atomic", "or", TO_B, 0, 0), ("load", 0, TO_A, 0),
                     ("special", 0, "tid"), ("load", 1, TO_T, 0), EXIT)
        one = machine(value, launch(1, 3), 4)
        found = []
        while one.actions():
            one.act(0)
            found.append(one.accesses())
        cells = [((("shared", 0, 1), k, k, "load", 6), 0, 0) for k in (0, 1)]
        self.assertEqual((one.end(), found), ("ok", [[]] * 6 + [cells, []]))

    def test_races(self):
        value = code(("special", 0, "tid"), ("load", 1, TO_A, 7), ("store", TO_A, 7, 0), ("store", TO_B, 0, 0), EXIT)
        one = machine(value, launch(1, 3), 2)
        acts(one, ("place", 0, 0), ("step", 0, 0, 0), ("step", 0, 0, 0))
        self.assertEqual(one.races(), [])
        act(one, "step", 0, 0, 0)
        # Lane 0 stores first: its store is in a race with the load of lane 1.
        told = [((A, 0, 1, "load", 2), (A, 0, 0, "store", 3))]
        self.assertEqual(one.races(), told)
        acts(one, *[("step", 0, 1, 0)] * 3)
        self.assertEqual(one.races(), told)
        finish(one)
        self.assertEqual((one.end(), one.races()), ("ok", told))

    def test_races_of_blocks_and_phases(self):
        value = code(("barrier", 1), ("store", TO_A, 7, 7), ("atomic", "add", TO_B, 7, 7), EXIT)
        one = machine(value, launch(2, 1), slots=2)
        acts(one, ("place", 0, 0), ("place", 1, 0), ("step", 0, 0, 0), ("step", 0, 0, 0), ("step", 1, 0, 0))
        self.assertEqual(one.races(), [])
        act(one, "step", 1, 0, 0)
        self.assertEqual(one.races(), [((A, 0, 0, "store", 3), (A, 0, 1, "store", 5))])
        # Threads of one block in different phases.
        value = code(("special", 0, "tid"), ("branch", 0, 5, 6), ("store", TO_A, 7, 0), ("barrier", 1), EXIT,
                     ("barrier", 1), ("store", TO_A, 7, 0), EXIT)
        for free in (False, True):
            self.assertEqual(run_machine(value, launch(1, 2), (2, free, 1, 1, 3), [])[::2], ("ok", []))

    def test_atomic_operations_with_one_operator_get_along(self):
        for other, many in (("add", 0), ("max", 1)):
            value = code(("special", 0, "bid"), ("branch", 0, 4, 5), ("atomic", "add", TO_A, 7, 0), ("jump", 5),
                         ("atomic", other, TO_A, 7, 0), EXIT)
            self.assertEqual(len(run_machine(value, launch(2, 1), (1, True, 1, 1, 0), [])[2]), many)

    def test_the_order_of_races(self):
        value = code(("special", 0, "tid"), ("store", TO_A, 7, 0), ("word", 1, 1), ("store", TO_A, 1, 0), EXIT)
        one = machine(value, launch(1, 2), 2)
        finish(one)
        self.assertEqual(one.races(), [
            ((A, 0, 0, "store", 2), (A, 0, 1, "store", 2)), ((A, 1, 0, "store", 4), (A, 1, 1, "store", 4))])


class WrittenTwiceTest(MachineCase):
    """The same as by a machine that the tests have of their own."""

    def same(self, one, slow):
        found = slow.actions()
        self.assertEqual(self.told(one), (
            found, slow.end(), slow.memory(), tuple(slow.core), slow.last, slow.told))
        return found

    def test_random_machines(self):
        ends = {}
        for seed in range(260):
            grid, _, arguments, buffers = random_launch(seed)
            dice = random.Random(seed)
            start = (grid, dice.randrange(1, 9), arguments, buffers)
            value, shape = random_code(seed, seed % 3 > 0), random_shape(seed, dice.randrange(1, 5))
            one, slow = Machine(value, start, shape), SlowMachine(value, start, shape)
            for _ in range(70):
                actions = self.same(one, slow)
                if not actions:
                    break
                index = dice.randrange(len(actions)) if dice.random() < 0.7 else 0
                if actions[index][0] == "aside" and dice.random() < 0.7:
                    index = 0
                one.act(index)
                slow.act(index)
            key = (one.end(), len(one.races()) > 0)
            ends[key] = ends.get(key, 0) + 1
        self.assertGreater(ends[("ok", False)], 40, ends)
        self.assertGreater(ends[("ok", True)], 5, ends)
        self.assertGreater(ends[("stuck", False)], 3, ends)


class OwnersTest(MachineCase):
    def test_lists_belong_to_the_caller(self):
        value = code(("special", 0, "tid"), ("store", TO_A, 7, 0), ("load", 0, TO_A, 7), EXIT)
        one = machine(value, launch(1, 2), 2, room=1)
        while one.actions():
            before = copy.deepcopy(self.told(one))
            for call in (one.actions, one.accesses, one.races):
                call().append(4)
                call().clear()
            self.assertEqual(self.told(one), before)
            one.act(0)
        self.assertEqual(len(one.races()), 1)
        one.races().clear()
        self.assertEqual(len(one.races()), 1)

    def test_arguments_stay_as_they_are(self):
        for seed in range(60):
            value, start, shape = random_code(seed, True, 12), random_launch(seed), random_shape(seed)
            turns = random_turns(seed, 30)
            kept = copy.deepcopy((value, start, shape, turns))
            one = Machine(value, start, shape)
            for _ in range(20):
                if one.actions():
                    one.act(0)
            if one.end() == "ok":
                first = run_machine(value, start, shape, turns)
                self.assertEqual(run_machine(value, start, shape, turns), first)
                first[2].append(1)
                self.assertEqual(run_machine(value, start, shape, turns)[:2], first[:2])
            self.assertEqual((value, start, shape, turns), kept)


if __name__ == "__main__":
    unittest.main()
