"""Points 29 to 32: warps with masks and free warps."""

import copy
import random
import unittest

from drawloom.errors import NotReady
from drawloom.lanes import behind, first_lane, request
from drawloom.warps import FreeWarp, Warp
from tests.randoms import random_code, random_launch
from tests.short import launch
from tests.shortcode import EACH, EXIT, NONE, TO_A, TO_B, TO_T, code, state

KINDS = (Warp, FreeWarp)
START = launch(2, 8, n=11)

# Lanes that part by their tid: those with an odd one go on at 4.
PARTING = (("special", 0, "tid"), ("word", 1, 1), ("binary", "and", 2, 0, 1))


def warp(kind, value, first=0, count=4, block=0, start=START):
    return kind(value, start, block, first, count)


def step(one, group=0, words=None):
    """Do a step of a group, with words that are all 0 if none are given."""
    one.step(group, [0] * len(one.asks(group)) if words is None else words)


def steps(one, many):
    for _ in range(many):
        step(one)


def indices(one):
    return [lane[0] for lane in one.lanes()]


def groups(one):
    """Return the list of the tids of each group."""
    return [[tid for tid, _ in one.asks(group)] for group in range(one.groups())]


def parting_code(seed):
    """Return random code the branches of which are on the bits of the tid."""
    dice = random.Random(seed)
    rows = [("special", 3, "tid")]
    for bit in range(3):
        rows += [("word", 4, 1 << bit), ("binary", "and", bit, 3, 4)]
    many = len(rows) + 24
    for _ in range(23):
        index, join = dice.randrange(7, many), dice.randrange(7, many + 1)
        rows.append(dice.choice((
            ("branch", dice.randrange(3), index, join), ("branch", dice.randrange(3), index, join), ("jump", index),
            ("word", 4, 4), ("barrier", 1), ("unary", "zero", index % 3, index % 3),
        )))
    return code(*rows, EXIT)


class WarpCase(unittest.TestCase):
    def not_ready(self, call, *arguments):
        with self.assertRaises(NotReady) as caught:
            call(*arguments)
        self.assertIs(type(caught.exception), NotReady)

    def told(self, one):
        """Return all that a warp tells."""
        asks = [one.asks(group) for group in range(one.groups())]
        entries = one.entries() if isinstance(one, Warp) else None
        return (one.groups(), asks, one.waits(), one.ended(), one.lanes(), entries)


class BothKindsTest(WarpCase):
    def test_first(self):
        for kind in KINDS:
            for count in range(1, 9):
                for first in range(9 - count):
                    value = code(*EACH, local=2)
                    one = warp(kind, value, first, count, 1)
                    self.assertEqual(one.groups(), 1)
                    self.assertEqual(one.asks(0), [(tid, NONE) for tid in range(first, first + count)])
                    self.assertEqual((one.waits(), one.ended()), ([], []))
                    self.assertEqual(one.lanes(), [first_lane(value)] * count)

    def test_a_step_of_each_instruction(self):
        for kind in KINDS:
            for row in EACH:
                if row[0] in ("barrier", "collect", "exit", "branch", "jump"):
                    continue
                value = code(("special", 5, "tid"), row, EXIT, local=2)
                for block in (0, 1):
                    one = warp(kind, value, 3, 2, block)
                    step(one)
                    alone = one.lanes()
                    asked = [request(value, lane) for lane in alone]
                    self.assertEqual(one.asks(0), [(3, asked[0]), (4, asked[1])])
                    one.step(0, [70, 71])
                    self.assertEqual(one.lanes(), [
                        behind(value, START, 8 * block + 3 + k, alone[k], 70 + k) for k in (0, 1)])
                    self.assertEqual((one.groups(), one.waits(), one.ended()), (1, [], []))

    def test_special_words_and_parameters(self):
        value = code(("special", 0, "tid"), ("special", 1, "bid"), ("special", 2, "dim"), ("param", 3, 1), EXIT)
        for kind in KINDS:
            one = warp(kind, value, 2, 3, 1)
            steps(one, 4)
            self.assertEqual(one.lanes(), [state(4, tid, 1, 8, 11) for tid in (2, 3, 4)])

    def test_requests_and_words_by_tid(self):
        value = code(("special", 0, "tid"), ("load", 1, TO_A, 0), ("store", TO_T, 1, 0), ("atomic", "max", TO_B, 0, 1), EXIT)
        for kind in KINDS:
            one = warp(kind, value, 4, 3)
            step(one)
            self.assertEqual(one.asks(0), [(tid, ("load", TO_A, tid)) for tid in (4, 5, 6)])
            one.step(0, [10, 20, 30])
            self.assertEqual(one.asks(0), [(4 + k, ("store", TO_T, 10 + 10 * k, 4 + k)) for k in range(3)])
            one.step(0, [99, 99, 99])
            self.assertEqual(one.asks(0), [(4 + k, ("atomic", "max", TO_B, 4 + k, 10 + 10 * k)) for k in range(3)])
            one.step(0, [98, 98, 98])
            self.assertEqual(one.lanes(), [state(4, 4 + k, 10 + 10 * k) for k in range(3)])

    def test_jump_and_branch_that_all_take(self):
        value = code(("jump", 2), EXIT, ("word", 0, 1), ("branch", 0, 5, 6), EXIT, ("branch", 1, 4, 4), EXIT)
        for kind in KINDS:
            one = warp(kind, value)
            for at in (2, 3, 5, 6):
                step(one)
                self.assertEqual((indices(one), groups(one)), ([at] * 4, [[0, 1, 2, 3]]))

    def test_waiting_and_release(self):
        value = code(("special", 0, "tid"), ("collect", "add", 1, 0, 7), ("barrier", 8), EXIT)
        for kind in KINDS:
            one = warp(kind, value, 1, 3)
            step(one)
            self.assertEqual(one.asks(0), [(tid, ("collect", "add", tid, 7)) for tid in (1, 2, 3)])
            self.not_ready(one.release, [])
            step(one)
            # The states stay while the lanes wait.
            self.assertEqual((one.groups(), indices(one)), (0, [1, 1, 1]))
            self.assertEqual(one.waits(), [(tid, ("collect", "add", tid, 7)) for tid in (1, 2, 3)])
            self.not_ready(one.step, 0, [0, 0, 0])
            one.release([5, 6, 7])
            self.assertEqual(one.lanes(), [state(2, k, 4 + k) for k in (1, 2, 3)])
            self.assertEqual((groups(one), one.waits()), ([[1, 2, 3]], []))
            self.not_ready(one.release, [0, 0, 0])
            step(one)
            self.assertEqual(one.waits(), [(tid, ("barrier", 8)) for tid in (1, 2, 3)])
            one.release([9, 9, 9])
            self.assertEqual(one.lanes(), [state(3, k, 4 + k) for k in (1, 2, 3)])
            step(one)
            self.assertEqual((one.groups(), one.ended(), one.waits()), (0, [1, 2, 3], []))
            self.assertEqual(indices(one), [3, 3, 3])
            self.not_ready(one.release, [])

    def test_some_wait_and_some_have_ended(self):
        value = code(*PARTING, ("branch", 2, 6, 7), ("barrier", 3), ("jump", 7), EXIT, ("word", 5, 5), EXIT)
        for kind in KINDS:
            one = warp(kind, value)
            steps(one, 5)
            # Both kinds begin with those that go on at 4 or 6: all do their step now.
            while one.groups() > 0:
                self.not_ready(one.release, [0] * len(one.waits()))
                step(one)
            self.assertEqual((one.waits(), one.ended()), ([(0, ("barrier", 3)), (2, ("barrier", 3))], [1, 3]))
            one.release([0, 0])
            self.assertEqual((groups(one), indices(one), one.ended()), ([[0, 2]], [5, 6, 5, 6], [1, 3]))

    def test_groups_that_are_not_there(self):
        value = code(("barrier", 0), EXIT)
        for kind in KINDS:
            one = warp(kind, value)
            before = self.told(one)
            for group in (-1, 1, 2, -5):
                self.not_ready(one.step, group, [0] * 4)
                self.assertEqual(self.told(one), before)
            step(one)
            before = self.told(one)
            for group in (-1, 0, 1):
                self.not_ready(one.step, group, [0] * 4)
                self.assertEqual(self.told(one), before)
            one.release([0] * 4)
            before = self.told(one)
            self.not_ready(one.release, [0] * 4)
            self.assertEqual(self.told(one), before)
            step(one)
            before = self.told(one)
            for group in (-1, 0, 1):
                self.not_ready(one.step, group, [])
            self.not_ready(one.release, [])
            self.assertEqual(self.told(one), before)

    def test_release_of_one_lane(self):
        value = code(("special", 0, "tid"), ("branch", 0, 3, 4), EXIT, ("collect", "add", 1, 0, 0), EXIT)
        for kind in KINDS:
            one = warp(kind, value, 1, 1)
            steps(one, 3)
            one.release([50])
            self.assertEqual((one.lanes(), groups(one)), ([state(4, 1, 50)], [[1]]))
            # Lane 0 has ended, and lane 1 waits.
            one = warp(kind, value, 0, 2)
            steps(one, 4)
            one.release([50])
            self.assertEqual((one.lanes(), groups(one)), ([state(2), state(4, 1, 50)], [[1]]))

    def test_release_while_one_lane_runs(self):
        value = code(("special", 0, "tid"), ("branch", 0, 3, 4), ("jump", 2), ("barrier", 0), EXIT)
        for kind in KINDS:
            one = warp(kind, value, 0, 4)
            steps(one, 2)
            step(one, one.groups() - 1)
            self.assertEqual((groups(one), len(one.waits())), ([[0]], 3))
            before = self.told(one)
            self.not_ready(one.release, [0] * 3)
            self.assertEqual(self.told(one), before)

    def test_release_while_a_lane_runs(self):
        value = code(*PARTING, ("branch", 2, 5, 6), ("barrier", 0), ("word", 3, 3), EXIT)
        for kind in KINDS:
            one = warp(kind, value)
            steps(one, 4)
            while not one.waits():
                step(one)
            self.assertGreater(one.groups(), 0)
            before = self.told(one)
            self.not_ready(one.release, [0] * len(one.waits()))
            self.assertEqual(self.told(one), before)


class MasksTest(WarpCase):
    def all_entries(self, value, many, count=4, first=0):
        """Return the entries behind each of so many steps."""
        one = warp(Warp, value, first, count)
        found = []
        for _ in range(many):
            step(one)
            found.append(one.entries())
        return found

    def test_the_first_entry(self):
        for count in range(1, 9):
            for first in range(9 - count):
                one = warp(Warp, code(EXIT), first, count)
                self.assertEqual(one.entries(), [(0, -1, tuple(range(first, first + count)))])

    def test_lanes_part_and_meet_again(self):
        value = code(*PARTING, ("branch", 2, 6, 7), ("word", 3, 5), ("jump", 7), ("word", 3, 6), ("word", 4, 7), EXIT)
        all_four = (0, 1, 2, 3)
        rest = (7, -1, all_four)
        self.assertEqual(self.all_entries(value, 9), [
            [(1, -1, all_four)], [(2, -1, all_four)], [(3, -1, all_four)],
            # Those that go on at the branch's own index are the top.
            [rest, (4, 7, (0, 2)), (6, 7, (1, 3))], [rest, (4, 7, (0, 2))], [rest, (5, 7, (0, 2))], [rest],
            [(8, -1, all_four)], [],
        ])

    def test_the_lanes_of_both_ways(self):
        value = code(*PARTING, ("branch", 2, 6, 7), ("word", 3, 5), ("jump", 7), ("word", 3, 6), ("word", 4, 7), EXIT)
        one = warp(Warp, value, 1, 3)
        steps(one, 4)
        self.assertEqual(one.asks(0), [(1, NONE), (3, NONE)])
        self.assertEqual((one.groups(), groups(one)), (1, [[1, 3]]))
        steps(one, 3)
        self.assertEqual(one.lanes(), [state(7, 1, 1, 1, 6), state(7, 2, 1, 0, 5), state(7, 3, 1, 1, 6)])

    def test_one_way_leads_to_the_join(self):
        value = code(*PARTING, ("branch", 2, 5, 5), ("word", 3, 5), ("word", 4, 7), EXIT)
        self.assertEqual(self.all_entries(value, 5)[3:], [
            [(5, -1, (0, 1, 2, 3)), (4, 5, (0, 2))], [(5, -1, (0, 1, 2, 3))]])

    def test_the_join_is_the_next_instruction(self):
        value = code(*PARTING, ("branch", 2, 5, 4), ("jump", 7), ("word", 3, 5), ("jump", 4), EXIT)
        self.assertEqual(self.all_entries(value, 7)[3:], [
            [(4, -1, (0, 1, 2, 3)), (5, 4, (1, 3))], [(4, -1, (0, 1, 2, 3)), (6, 4, (1, 3))], [(4, -1, (0, 1, 2, 3))],
            [(7, -1, (0, 1, 2, 3))],
        ])

    def test_the_target_is_the_next_instruction(self):
        value = code(*PARTING, ("branch", 2, 4, 4), EXIT)
        self.assertEqual(self.all_entries(value, 4)[3:], [[(4, -1, (0, 1, 2, 3))]])
        value = code(*PARTING, ("branch", 2, 4, 5), EXIT)
        self.assertEqual(self.all_entries(value, 4)[3:], [[(4, -1, (0, 1, 2, 3))]])

    def test_the_join_is_the_number_of_instructions(self):
        value = code(*PARTING, ("branch", 2, 6, 8), ("word", 3, 5), EXIT, ("word", 3, 6), EXIT)
        rest = (8, -1, (0, 1, 2, 3))
        self.assertEqual(self.all_entries(value, 8)[3:], [
            [rest, (4, 8, (0, 2)), (6, 8, (1, 3))], [rest, (4, 8, (0, 2)), (7, 8, (1, 3))],
            [(8, -1, (0, 2)), (4, 8, (0, 2))], [(8, -1, (0, 2)), (5, 8, (0, 2))], [],
        ])

    def test_branches_inside_of_branches(self):
        # By the bits of the tid: 2 parts first, then 1.
        value = code(
            ("special", 0, "tid"), ("word", 1, 1), ("binary", "and", 2, 0, 1), ("word", 1, 2), ("binary", "and", 3, 0, 1),
            ("branch", 3, 10, 14), ("branch", 2, 8, 9), ("word", 4, 1), ("word", 4, 2), ("jump", 14),
            ("branch", 2, 13, 14), ("word", 4, 3), ("jump", 14), ("word", 4, 4), EXIT,
        )
        rest = (14, -1, (0, 1, 2, 3))
        self.assertEqual(self.all_entries(value, 16)[5:], [
            [rest, (6, 14, (0, 1)), (10, 14, (2, 3))],
            # The entry that would wait at the join of both branches is taken away at once.
            [rest, (6, 14, (0, 1)), (11, 14, (2,)), (13, 14, (3,))],
            [rest, (6, 14, (0, 1)), (11, 14, (2,))], [rest, (6, 14, (0, 1)), (12, 14, (2,))], [rest, (6, 14, (0, 1))],
            [rest, (9, 14, (0, 1)), (7, 9, (0,)), (8, 9, (1,))],
            [rest, (9, 14, (0, 1)), (7, 9, (0,))], [rest, (9, 14, (0, 1)), (8, 9, (0,))], [rest, (9, 14, (0, 1))],
            [rest], [],
        ])

    def test_a_chain_of_branches(self):
        # Each branch leaves one lane behind, and all have one join.
        value = code(
            ("special", 0, "tid"), ("word", 1, 1), ("branch", 0, 4, 11), ("jump", 11), ("binary", "sub", 0, 0, 1),
            ("branch", 0, 7, 11), ("jump", 11), ("binary", "sub", 0, 0, 1), ("branch", 0, 10, 11), ("jump", 11),
            ("word", 5, 5), EXIT,
        )
        found = self.all_entries(value, 12)
        deepest = [(11, -1, (0, 1, 2, 3)), (3, 11, (0,)), (6, 11, (1,)), (9, 11, (2,)), (10, 11, (3,))]
        self.assertEqual(found[6], deepest)
        self.assertEqual(found[7:], [deepest[:4], deepest[:3], deepest[:2], deepest[:1], []])

    def test_several_entries_are_taken_away_at_once(self):
        # Behind the inner branch both the entry for its join and that for its k are at the join.
        value = code(
            ("special", 0, "tid"), ("word", 1, 1), ("branch", 0, 4, 8), ("jump", 8), ("binary", "sub", 0, 0, 1),
            ("branch", 0, 8, 8), ("word", 5, 5), ("jump", 8), EXIT,
        )
        rest = [(8, -1, (0, 1, 2)), (3, 8, (0,))]
        found = self.all_entries(value, 9, 3)
        self.assertEqual(found[2:], [
            rest + [(4, 8, (1, 2))], rest + [(5, 8, (1, 2))], rest + [(6, 8, (1,))], rest + [(7, 8, (1,))], rest, rest[:1],
            [],
        ])

    def test_a_branch_that_all_take_inside_of_a_branch(self):
        value = code(*PARTING, ("branch", 2, 6, 9), ("jump", 9), EXIT, ("special", 3, "tid"), ("branch", 0, 8, 8), EXIT,
                     ("word", 4, 1), EXIT)
        self.assertEqual(self.all_entries(value, 7)[3:], [
            [(9, -1, (0, 1, 2, 3)), (4, 9, (0, 2)), (6, 9, (1, 3))],
            [(9, -1, (0, 1, 2, 3)), (4, 9, (0, 2)), (7, 9, (1, 3))],
            [(9, -1, (0, 1, 2, 3)), (4, 9, (0, 2)), (8, 9, (1, 3))],
            [(9, -1, (0, 2)), (4, 9, (0, 2))],
        ])

    def test_a_loop_that_lanes_leave_one_after_the_other(self):
        value = code(("special", 0, "tid"), ("word", 1, 1), ("branch", 0, 4, 6), ("jump", 6), ("binary", "sub", 0, 0, 1),
                     ("jump", 2), ("word", 2, 7), EXIT)
        rest = [(6, -1, (0, 1, 2)), (3, 6, (0,))]
        more = rest + [(3, 6, (1,))]
        self.assertEqual(self.all_entries(value, 14, 3)[2:], [
            rest + [(4, 6, (1, 2))], rest + [(5, 6, (1, 2))], rest + [(2, 6, (1, 2))],
            more + [(4, 6, (2,))], more + [(5, 6, (2,))], more + [(2, 6, (2,))], more + [(3, 6, (2,))],
            more, rest, rest[:1], [(7, -1, (0, 1, 2))], [],
        ])

    def test_lanes_that_wait_inside_of_a_branch(self):
        value = code(*PARTING, ("branch", 2, 6, 8), ("word", 3, 5), ("jump", 8), ("barrier", 1), ("word", 3, 6),
                     ("barrier", 2), EXIT)
        one = warp(Warp, value)
        steps(one, 5)
        self.assertEqual(one.entries(), [(8, -1, (0, 2)), (4, 8, (0, 2))])
        self.assertEqual(one.waits(), [(1, ("barrier", 1)), (3, ("barrier", 1))])
        steps(one, 2)
        self.assertEqual(one.entries(), [(8, -1, (0, 2))])
        step(one)
        self.assertEqual((one.entries(), one.groups()), ([], 0))
        self.assertEqual(one.waits(), [(tid, ("barrier", 2 - tid % 2)) for tid in range(4)])
        one.release([0, 0, 0, 0])
        # Entries with greater indices first, all with the join -1.
        self.assertEqual(one.entries(), [(9, -1, (0, 2)), (7, -1, (1, 3))])
        step(one)
        self.assertEqual(one.entries(), [(9, -1, (0, 2)), (8, -1, (1, 3))])
        # Lanes that come to the index of another entry stay in their own one.
        step(one)
        self.assertEqual(one.entries(), [(9, -1, (0, 2))])
        step(one)
        self.assertEqual((one.entries(), one.ended(), one.waits()), ([], [0, 2], [(1, ("barrier", 2)), (3, ("barrier", 2))]))
        one.release([0, 0])
        self.assertEqual(one.entries(), [(9, -1, (1, 3))])

    def test_lanes_that_end_inside_of_a_branch(self):
        value = code(*PARTING, ("branch", 2, 6, 7), ("word", 3, 5), ("jump", 7), EXIT, ("word", 4, 7), EXIT)
        one = warp(Warp, value)
        steps(one, 5)
        self.assertEqual((one.entries(), one.ended()), ([(7, -1, (0, 2)), (4, 7, (0, 2))], [1, 3]))
        steps(one, 2)
        self.assertEqual(one.entries(), [(7, -1, (0, 2))])

    def test_release_of_three_indices(self):
        value = code(
            ("special", 0, "tid"), ("word", 1, 1), ("branch", 0, 5, 9), ("barrier", 4), EXIT, ("binary", "sub", 2, 0, 1),
            ("branch", 2, 8, 9), ("barrier", 4), ("barrier", 4), EXIT,
        )
        one = warp(Warp, value, 0, 5)
        while one.groups():
            step(one)
        self.assertEqual(indices(one), [3, 7, 8, 8, 8])
        one.release([0] * 5)
        self.assertEqual(one.entries(), [(9, -1, (2, 3, 4)), (8, -1, (1,)), (4, -1, (0,))])
        step(one)
        self.assertEqual(one.entries(), [(9, -1, (2, 3, 4)), (8, -1, (1,))])
        step(one)
        # Lane 1 waits at the barrier, which lane 2 has passed.
        self.assertEqual((one.entries(), one.waits()), ([(9, -1, (2, 3, 4))], [(1, ("barrier", 4))]))

    def test_code_that_passes_its_join_by(self):
        # The join is never reached, and the lanes part again and again.
        value = code(("special", 0, "tid"), ("word", 1, 1), ("binary", "sub", 0, 0, 1), ("branch", 0, 2, 5), ("jump", 2), EXIT)
        one = warp(Warp, value, 1, 4)
        for _ in range(40):
            step(one)
            self.assertLessEqual(len(one.entries()), 8)
            self.assertEqual(len({lane[0] for lane, tid in zip(one.lanes(), range(1, 5)) if tid in one.entries()[-1][2]}), 1)


class FreeTest(WarpCase):
    VALUE = code(*PARTING, ("branch", 2, 6, 7), ("word", 3, 5), ("jump", 7), ("word", 3, 6), ("word", 4, 7), EXIT)

    def test_groups_by_ascending_index(self):
        one = warp(FreeWarp, self.VALUE, 2, 5)
        steps(one, 4)
        self.assertEqual((one.groups(), groups(one)), (2, [[2, 4, 6], [3, 5]]))
        self.assertEqual(indices(one), [4, 6, 4, 6, 4])

    def test_any_group_steps(self):
        one = warp(FreeWarp, self.VALUE)
        steps(one, 4)
        step(one, 1)
        self.assertEqual((groups(one), indices(one)), ([[0, 2], [1, 3]], [4, 7, 4, 7]))
        step(one, 1)
        self.assertEqual(indices(one), [4, 8, 4, 8])
        step(one, 0)
        step(one, 0)
        self.assertEqual((groups(one), indices(one)), ([[0, 2], [1, 3]], [7, 8, 7, 8]))
        step(one, 0)
        self.assertEqual((groups(one), indices(one)), ([[0, 1, 2, 3]], [8] * 4))

    def test_lanes_that_meet_again_are_one_group(self):
        one = warp(FreeWarp, self.VALUE)
        steps(one, 5)
        self.assertEqual(groups(one), [[0, 2], [1, 3]])
        step(one, 0)
        self.assertEqual(groups(one), [[1, 3], [0, 2]])
        step(one, 0)
        self.assertEqual((one.groups(), groups(one), one.asks(0)), (1, [[0, 1, 2, 3]], [(tid, NONE) for tid in range(4)]))

    def test_a_group_may_overtake_another_one(self):
        value = code(("special", 0, "tid"), ("branch", 0, 4, 5), ("word", 1, 1), ("jump", 6), ("jump", 0), ("word", 2, 2), EXIT)
        one = warp(FreeWarp, value, 0, 3)
        steps(one, 2)
        self.assertEqual((groups(one), indices(one)), ([[0], [1, 2]], [2, 4, 4]))
        step(one, 1)
        self.assertEqual((groups(one), indices(one)), ([[1, 2], [0]], [2, 0, 0]))

    def test_groups_that_are_not_there(self):
        one = warp(FreeWarp, self.VALUE)
        steps(one, 4)
        before = self.told(one)
        for group in (-1, 2, 3):
            self.not_ready(one.step, group, [0, 0])
            self.assertEqual(self.told(one), before)

    def test_waiting_ending_and_release(self):
        value = code(*PARTING, ("branch", 2, 7, 9), ("word", 3, 5), ("barrier", 1), EXIT, ("collect", "add", 4, 0, 2),
                     ("word", 3, 6), EXIT)
        one = warp(FreeWarp, value)
        steps(one, 4)
        step(one, 1)
        self.assertEqual(one.waits(), [(1, ("collect", "add", 1, 2)), (3, ("collect", "add", 3, 2))])
        self.assertEqual(groups(one), [[0, 2]])
        self.not_ready(one.release, [0, 0])
        steps(one, 2)
        self.assertEqual((one.groups(), indices(one)), (0, [5, 7, 5, 7]))
        one.release([1, 40, 3, 50])
        self.assertEqual((groups(one), indices(one)), ([[0, 2], [1, 3]], [6, 8, 6, 8]))
        self.assertEqual([lane[1][4] for lane in one.lanes()], [0, 40, 0, 50])
        step(one, 0)
        self.assertEqual((one.ended(), groups(one)), ([0, 2], [[1, 3]]))


class AloneTest(WarpCase):
    """Point 32: each lane has the states that it has alone; and the entries are as they should."""

    def start(self, value, seed, kind):
        self.dice = random.Random(seed)
        grid, dim, arguments, buffers = random_launch(seed)
        self.launched = (grid, 8, arguments, buffers)
        self.first = self.dice.randrange(8)
        self.count = self.dice.randrange(1, 9 - self.first)
        self.block = self.dice.randrange(grid)
        self.value = value
        self.words = [random.Random(f"{seed} {tid}") for tid in range(8)]
        self.alone = [first_lane(value)] * self.count
        return kind(value, self.launched, self.block, self.first, self.count)

    def word(self, tid):
        return self.words[tid].randrange(-4, 5)

    def go_on(self, tid, word):
        at = tid - self.first
        self.alone[at] = behind(self.value, self.launched, self.block * 8 + tid, self.alone[at], word)

    def play(self, one):
        """Do a step of any group, or a release; tell whether there was one."""
        if one.groups() == 0:
            waits = one.waits()
            if not waits:
                return False
            words = [self.word(tid) for tid, _ in waits]
            for (tid, asked), word in zip(waits, words):
                self.assertEqual(asked, request(self.value, self.alone[tid - self.first]))
                self.go_on(tid, word)
            one.release(words)
            return True
        group = self.dice.randrange(one.groups())
        asks = one.asks(group)
        self.assertEqual([tid for tid, _ in asks], sorted(tid for tid, _ in asks))
        words = [self.word(tid) for tid, _ in asks]
        for (tid, asked), word in zip(asks, words):
            self.assertEqual(asked, request(self.value, self.alone[tid - self.first]))
            if asked[0] not in ("barrier", "collect", "exit"):
                self.go_on(tid, word)
        one.step(group, words)
        return True

    def check(self, one, seed):
        self.assertEqual(one.lanes(), self.alone, seed)
        stopped = [tid for tid, _ in one.waits()] + one.ended()
        running = [tid for tid in range(self.first, self.first + self.count) if tid not in stopped]
        found = sorted(tid for row in groups(one) for tid in row)
        if isinstance(one, FreeWarp):
            self.assertEqual(found, running)
            return
        self.assertEqual(one.groups(), int(bool(running)))
        entries = one.entries()
        self.assertEqual(sorted({tid for _, _, lanes in entries for tid in lanes}), running)
        for at, join, lanes in entries:
            self.assertEqual(lanes, tuple(sorted(lanes)))
            self.assertTrue(lanes and (join == -1 or at != join))
        if entries:
            at, _, lanes = entries[-1]
            self.assertEqual({self.alone[tid - self.first][0] for tid in lanes}, {at})
        self.deepest = max(self.deepest, len(entries))
        self.assertLessEqual(len(entries), 2 * self.count)

    def test_random_code(self):
        self.deepest = 0
        many = 0
        for seed in range(700):
            value = parting_code(seed) if seed % 2 == 0 else random_code(seed, seed % 4 > 1, 30)
            for kind in KINDS:
                one = self.start(value, seed, kind)
                for _ in range(60):
                    self.check(one, seed)
                    if not self.play(one):
                        break
                    many += 1
        self.assertGreater(many, 10000)
        self.assertGreater(self.deepest, 5)


class OwnersTest(WarpCase):
    def test_copies_go_on_alike_and_change_nothing(self):
        for seed in range(150):
            value, start = random_code(seed, True), random_launch(seed)
            for kind in KINDS:
                one = kind(value, start, 0, 0, start[1])
                dice = random.Random(seed)
                for _ in range(12):
                    other = one.copy()
                    self.assertIs(type(other), kind)
                    before = copy.deepcopy(self.told(one))
                    self.assertEqual(self.told(other), before)
                    if not one.groups():
                        break
                    group = dice.randrange(one.groups())
                    words = [dice.randrange(5) for _ in one.asks(group)]
                    other.step(group, words)
                    self.assertEqual(self.told(one), before)
                    changed = copy.deepcopy(self.told(other))
                    one.step(group, words)
                    self.assertEqual((self.told(one), self.told(other)), (changed, changed))
                    if not one.groups() and one.waits():
                        one.release([3] * len(one.waits()))
                        self.assertEqual(self.told(other), changed)
                        other.release([3] * len(other.waits()))
                        self.assertEqual(self.told(other), self.told(one))

    def test_lists_belong_to_the_caller(self):
        value = code(*PARTING, ("branch", 2, 6, 7), ("barrier", 1), EXIT, EXIT, EXIT)
        for kind in KINDS:
            one = warp(kind, value)
            steps(one, 4)
            while one.groups() > 0 and not (one.ended() and one.waits()):
                before = copy.deepcopy(self.told(one))
                for call in (one.waits, one.ended, one.lanes, lambda: one.asks(0)) + (
                        (one.entries,) if kind is Warp else ()):
                    call().append(5)
                    call().clear()
                    self.assertEqual(self.told(one), before)
                step(one)

    def test_arguments_stay_as_they_are(self):
        value = code(("collect", "add", 0, 0, 1), EXIT)
        for kind in KINDS:
            words = [1, 2, 3, 4]
            one = warp(kind, value)
            one.step(0, words)
            one.release(words)
            self.assertEqual(words, [1, 2, 3, 4])
            words.clear()
            self.assertEqual([lane[1][0] for lane in one.lanes()], [1, 2, 3, 4])


if __name__ == "__main__":
    unittest.main()
