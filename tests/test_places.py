"""Points 21 and 22: live registers, registers that clash, and places for them."""

import copy
import functools
import itertools
import random
import unittest

from drawloom.errors import TooLarge
from drawloom.forming import in_form, out_of_form
from drawloom.graphs import check_graph
from drawloom.improving import improved
from drawloom.lowering import lowered
from drawloom.places import assigned, clashes, is_right, live_into
from tests.randoms import random_graph, random_kernel
from tests.same import occurring_ones, random_form, used_at, written_at
from tests.short import PARAMS, SHARED

EXIT = ("exit",)
NODE = ((), EXIT)


def graph(*nodes, registers=8):
    value = (PARAMS, SHARED, registers, nodes)
    check_graph(value)
    return value


def one(*rows, registers=8):
    return graph((rows, EXIT), registers=registers)


def word(number):
    return ("word", number, 0)


def use(number):
    return ("store", 0, number, number)


@functools.cache
def live_points(value):
    """Return the set of all triples of a register and the node and index of a point where it is live.

    From each use it goes back along the ways, as far as nothing writes the register.
    """
    behind = {}
    for node, (rows, end) in enumerate(value[3]):
        for at in range(len(rows)):
            behind.setdefault((node, at + 1), []).append((node, at))
        for other in set(end[1:] if end[0] == "jump" else end[2:]):
            behind.setdefault((other, 0), []).append((node, len(rows)))
    found = set()
    waiting = []
    for node, (rows, end) in enumerate(value[3]):
        for at, row in enumerate(rows + (end,)):
            waiting.extend((row[index], node, at) for index in used_at(row))
    while waiting:
        number, node, at = waiting.pop()
        if (number, node, at) not in found:
            found.add((number, node, at))
            for other, index in behind.get((node, at), ()):
                rows = value[3][other][0]
                row = rows[index] if index < len(rows) else ("end",)
                if not (written_at(row) and row[written_at(row)] == number):
                    waiting.append((number, other, index))
    return found


def live_at(value, node, at):
    """Return the ascending list of the registers that are live at a point."""
    return sorted(number for number, other, index in live_points(value) if (other, index) == (node, at))


def live_by_words(value):
    return [live_at(value, node, 0) for node in range(len(value[3]))]


@functools.cache
def clashes_by_words(value):
    found = set(itertools.combinations(live_at(value, 0, 0), 2))
    for node, (rows, _) in enumerate(value[3]):
        for at, row in enumerate(rows):
            if written_at(row):
                write = row[written_at(row)]
                for number in live_at(value, node, at + 1):
                    if number != write:
                        found.add((min(number, write), max(number, write)))
    return sorted(found)


def out_graphs():
    """Return graphs as they come from kernels and from phis."""
    found = [out_of_form(random_form(seed, seed % 2 == 0)) for seed in range(60)]
    for seed in range(40):
        value = lowered(random_kernel(seed, seed % 3 == 0))
        found += [value, out_of_form(improved(in_form(value)))]
    return found


GRAPHS = [random_graph(seed, seed % 2 == 0, most_registers=12) for seed in range(120)] + out_graphs()


class LiveTest(unittest.TestCase):
    def test_one_node(self):
        self.assertEqual(live_into(one()), [[]])
        self.assertEqual(live_into(one(word(0), use(0))), [[]])
        self.assertEqual(live_into(one(use(3), word(3), use(3))), [[3]])
        self.assertEqual(live_into(one(use(5), use(1), word(1), use(2))), [[1, 2, 5]])

    def test_an_instruction_uses_before_it_writes(self):
        for row in (
            ("copy", 4, 4), ("unary", "neg", 4, 4), ("binary", "add", 4, 4, 0), ("binary", "add", 4, 0, 4),
            ("load", 4, 0, 4), ("collect", "add", 4, 4, 9),
        ):
            self.assertIn(4, live_into(one(row))[0], row)

    def test_each_use(self):
        for row in (
            ("copy", 0, 4), ("unary", "neg", 0, 4), ("binary", "add", 0, 4, 1), ("binary", "add", 0, 1, 4),
            ("load", 0, 0, 4), ("store", 0, 4, 1), ("store", 0, 1, 4), ("atomic", "add", 0, 4, 1),
            ("atomic", "add", 0, 1, 4), ("collect", "add", 0, 4, 9),
        ):
            self.assertIn(4, live_into(one(row))[0], row)
            self.assertNotIn(4, live_into(one(word(4), row))[0], row)

    def test_a_branch(self):
        self.assertEqual(live_into(graph(((), ("branch", 6, 1, 1)), NODE)), [[6], []])
        self.assertEqual(live_into(graph(((word(6),), ("branch", 6, 1, 1)), NODE)), [[], []])

    def test_each_write(self):
        for row in (
            word(4), ("param", 4, 1), ("special", 4, "tid"), ("copy", 4, 0), ("unary", "neg", 4, 0),
            ("binary", "add", 4, 0, 0), ("load", 4, 0, 0), ("collect", "add", 4, 0, 9),
        ):
            self.assertNotIn(4, live_into(one(row, use(4)))[0], row)

    def test_one_way_is_enough(self):
        value = graph(((), ("branch", 0, 1, 2)), ((word(1),), ("jump", 3)), ((), ("jump", 3)), ((use(1), use(2)), EXIT))
        self.assertEqual(live_into(value), [[0, 1, 2], [2], [1, 2], [1, 2]])

    def test_round_a_loop(self):
        value = graph(
            ((word(1),), ("jump", 1)), ((use(0),), ("branch", 1, 2, 3)), ((use(2), word(0)), ("jump", 1)),
            ((use(3),), EXIT),
        )
        self.assertEqual(live_into(value), [[0, 2, 3], [0, 1, 2, 3], [1, 2, 3], [3]])

    def test_a_loop_without_exit(self):
        value = graph(((), ("jump", 1)), ((use(1), word(2)), ("jump", 2)), ((use(2),), ("jump", 1)))
        self.assertEqual(live_into(value), [[1], [1], [1, 2]])

    def test_by_the_words_of_the_point(self):
        for value in GRAPHS:
            self.assertEqual(live_into(value), live_by_words(value), value)

    def test_a_long_way(self):
        nodes = [((), ("jump", node + 1)) for node in range(399)] + [((use(999),), EXIT)]
        self.assertEqual(live_into(graph(*nodes, registers=1000)), [[999]] * 400)
        # The other way round the numbers of the nodes go down.
        nodes = [((), ("jump", 399)), ((use(999),), EXIT)] + [((), ("jump", node - 1)) for node in range(2, 400)]
        self.assertEqual(live_into(graph(*nodes, registers=1000)), [[999]] * 400)


class ClashesTest(unittest.TestCase):
    def test_none(self):
        self.assertEqual(clashes(one()), [])
        self.assertEqual(clashes(one(word(0), use(0), word(1), use(1))), [])

    def test_a_written_register_and_one_that_is_live_behind(self):
        self.assertEqual(clashes(one(word(0), word(1), use(0), use(1))), [(0, 1)])
        self.assertEqual(clashes(one(word(3), word(1), ("binary", "add", 2, 3, 1), use(2))), [(1, 3)])

    def test_the_written_one_need_not_be_live(self):
        self.assertEqual(clashes(one(word(5), word(2), use(5))), [(2, 5)])
        self.assertEqual(clashes(one(word(5), ("collect", "add", 2, 5, 0), use(5))), [(2, 5)])

    def test_what_is_live_in_front_but_not_behind(self):
        self.assertEqual(clashes(one(word(0), ("copy", 1, 0), use(1))), [])
        self.assertEqual(clashes(one(word(0), ("copy", 1, 0), use(1), use(0))), [(0, 1)])

    def test_a_copy_clashes_with_its_origin_that_is_live_behind(self):
        self.assertEqual(clashes(one(word(0), ("copy", 0, 0), use(0))), [])
        self.assertEqual(clashes(one(word(4), ("copy", 2, 4), use(2), use(4))), [(2, 4)])

    def test_registers_that_are_live_in_front_of_everything(self):
        self.assertEqual(clashes(one(use(1), use(4), use(2))), [(1, 2), (1, 4), (2, 4)])
        self.assertEqual(clashes(one(use(1), word(4), use(4))), [])
        # Of other nodes than the first one that does not count.
        value = graph(((word(0), word(1)), ("jump", 1)), ((use(0), use(1)), EXIT))
        self.assertEqual(clashes(value), [(0, 1)])

    def test_behind_the_last_instruction(self):
        value = graph(((word(0), word(1)), ("branch", 1, 1, 2)), ((use(0),), EXIT), NODE)
        self.assertEqual(clashes(value), [(0, 1)])
        value = graph(((word(0), word(1)), ("branch", 0, 1, 2)), NODE, NODE)
        self.assertEqual(clashes(value), [(0, 1)])
        value = graph(((word(0), word(1)), ("jump", 1)), NODE)
        self.assertEqual(clashes(value), [])

    def test_loops(self):
        value = graph(
            ((word(0), word(1)), ("jump", 1)), ((word(2), ("binary", "sub", 0, 0, 1)), ("branch", 0, 1, 2)), NODE,
        )
        self.assertEqual(clashes(value), [(0, 1), (0, 2), (1, 2)])

    def test_ascending_pairs_by_the_words_of_the_point(self):
        many = 0
        for value in GRAPHS:
            found = clashes(value)
            many += len(found)
            self.assertEqual(found, clashes_by_words(value), value)
            self.assertEqual({type(row) for row in found} - {tuple}, set())
        self.assertGreater(many, 1000)


class IsRightTest(unittest.TestCase):
    # The registers 0 and 1 clash, 2 with none of them.
    VALUE = one(word(0), word(1), use(0), use(1), word(2), use(2), registers=3)

    def right(self, *places, k=5):
        self.assertIs(is_right(self.VALUE, places, k), True, places)

    def wrong(self, *places, k=5):
        self.assertIs(is_right(self.VALUE, places, k), False, places)

    def test_places_that_are_less_than_k(self):
        for k in range(1, 6):
            self.right(k - 1, -1, 0, k=k)
            self.right(-1, k - 1, k - 1, k=k)
            self.wrong(k, -1, 0, k=k)
            self.wrong(-1, k, 0, k=k)
            self.wrong(-1, 0, k, k=k)

    def test_places_that_are_at_least_minus_64(self):
        self.right(-64, 0, 0)
        self.right(0, -64, -64)
        self.wrong(-65, 0, 0)
        self.wrong(0, -65, 0)
        self.wrong(0, 1, -65)

    def test_registers_that_clash(self):
        self.right(0, 1, 0)
        self.right(0, 1, 1)
        self.right(-1, -2, -1)
        self.wrong(0, 0, 1)
        self.wrong(-1, -1, 0)
        self.wrong(-64, -64, 0)
        self.wrong(4, 4, 4)

    def test_registers_that_do_not_occur_have_places_too(self):
        value = one(word(0), use(0), registers=3)
        self.assertIs(is_right(value, (0, 0, 0), 1), True)
        self.assertIs(is_right(value, (0, 4, -64), 5), True)
        self.assertIs(is_right(value, (0, 5, 0), 5), False)
        self.assertIs(is_right(value, (0, 0, -65), 5), False)

    def test_no_registers(self):
        self.assertIs(is_right(one(registers=0), (), 1), True)

    def test_a_place_more_or_less(self):
        self.wrong(0, 1)
        self.wrong()
        self.wrong(0, 1, 0, 0)

    def test_by_the_words_of_the_point(self):
        found = {True: 0, False: 0}
        for seed, value in enumerate(GRAPHS):
            dice = random.Random(seed)
            pairs = clashes_by_words(value)
            for most in (0, 3, 12, 64):
                places = tuple(dice.randrange(-most, 5) for _ in range(value[2]))
                told = all(places[a] != places[b] for a, b in pairs)
                found[told] += 1
                self.assertIs(is_right(value, places, 5), told)
        self.assertGreater(min(found.values()), 50)


class AssignedTest(unittest.TestCase):
    def placed(self, value, k):
        """Return the assignment for a graph, and check what the points say of it."""
        places = assigned(value, k)
        self.assertIs(type(places), tuple)
        self.assertEqual(len(places), value[2])
        self.assertTrue(all(-64 <= place < k for place in places))
        self.assertTrue(all(places[a] != places[b] for a, b in clashes_by_words(value)), (value, places))
        self.assertIs(is_right(value, places, k), True)
        occurring = occurring_ones(value)
        self.assertTrue(all(places[number] == 0 for number in range(value[2]) if number not in occurring))
        cells = {place for place in places if place < 0}
        self.assertLessEqual(len(cells), max(0, len(occurring) - k))
        return places

    def test_each_number_of_machine_registers(self):
        spilled = 0
        for value in GRAPHS:
            for k in range(1, 6):
                spilled += min(self.placed(value, k), default=0) < 0
        self.assertGreater(spilled, 100)

    def test_no_place_below_0_where_few_registers_occur(self):
        for k in range(1, 6):
            for numbers in ((), (0,), (7, 3), (1, 5, 2), (0, 9, 4, 6), (8, 7, 6, 5, 4)):
                value = one(*[use(number) for number in numbers], registers=10)
                places = self.placed(value, k)
                if len(numbers) <= k:
                    self.assertGreaterEqual(min(places), 0)
                else:
                    self.assertEqual(len({place for place in places if place < 0}), len(numbers) - k)

    def test_registers_that_only_a_branch_uses(self):
        value = graph(((word(1),), ("branch", 3, 1, 2)), ((use(1),), EXIT), NODE)
        places = self.placed(value, 2)
        self.assertEqual(sorted((places[1], places[3])), [0, 1])

    def test_no_registers(self):
        self.assertEqual(assigned(one(registers=0), 3), ())
        self.assertEqual(assigned(one(registers=4), 1), (0, 0, 0, 0))

    def all_at_once(self, many):
        """Return a graph with so many registers that all clash."""
        return one(*[word(number) for number in range(many)], *[use(number) for number in range(many)], registers=many)

    def test_up_to_64_local_cells(self):
        for k in range(1, 6):
            value = self.all_at_once(k + 64)
            self.assertEqual(sorted(self.placed(value, k)), list(range(-64, k)))
            with self.assertRaises(TooLarge) as caught:
                assigned(self.all_at_once(k + 65), k)
            self.assertIs(type(caught.exception), TooLarge)

    def test_many_registers_that_do_not_clash(self):
        rows = [row for number in range(400) for row in (word(number), use(number))]
        self.assertEqual(set(self.placed(one(*rows, registers=1000), 1)), {0})

    def test_random_graphs_with_many_registers(self):
        for seed in range(25):
            value = random_graph(seed, True, 12, 66)
            for k in (1, 2, 5):
                if len(occurring_ones(value)) <= k + 64:
                    self.placed(value, k)


class OwnersTest(unittest.TestCase):
    def test_lists_belong_to_the_caller(self):
        for value in GRAPHS[:60]:
            for told in (live_into, clashes):
                first, before = told(value), copy.deepcopy(told(value))
                for row in first:
                    if isinstance(row, list):
                        row.append(7)
                first.append(8)
                self.assertEqual(told(value), before)
                rows = [row for row in told(value) if isinstance(row, list)]
                self.assertEqual(len({id(row) for row in rows}), len(rows))

    def test_arguments_stay_as_they_are(self):
        for value in GRAPHS[:60]:
            before = copy.deepcopy(value)
            places = assigned(value, 2)
            is_right(value, places, 2)
            self.assertEqual((value, assigned(value, 2)), (before, places))


if __name__ == "__main__":
    unittest.main()
