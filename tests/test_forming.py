"""Points 14 and 15: flow graphs in form, and the ways into it and out of it."""

import copy
import unittest

from drawloom.errors import BadGraph, NotInForm, TooLarge
from drawloom.forming import in_form, is_in_form, out_of_form
from drawloom.graphs import check_graph, run_graph
from drawloom.lowering import lowered
from tests.randoms import GraphMaker, random_graph, random_kernel, random_launch
from tests.same import (
    does_the_same, instructions, is_in_form_by_words, occurring_ones, phis, random_form, rows_of_phis, used_at,
    uses_of, with_other_rows, written_at,
)
from tests.short import PARAMS, SHARED, launch

EXIT = ("exit",)
TO_A = 0


def graph(*nodes, registers=12):
    value = (PARAMS, SHARED, registers, nodes)
    check_graph(value)
    return value


def one(*rows):
    return graph((rows, EXIT))


def word(number, value=0):
    return ("word", number, value)


def copy_of(number, origin):
    return ("copy", number, origin)


def stores(*numbers):
    """Return instructions that store registers in the cells of the buffer a, using 10 and 11."""
    rows = [word(10), word(11, 1)]
    for number in numbers:
        rows += [("store", TO_A, 10, number), ("binary", "add", 10, 10, 11)]
    return tuple(rows)


def as_shape(row):
    """Return an instruction or an end without its registers."""
    fixed = used_at(row) + ((written_at(row),) if written_at(row) else ())
    return tuple(0 if at in fixed else part for at, part in enumerate(row))


def body(rows):
    """Return the instructions of a node but phis, without their registers."""
    return [as_shape(row) for row in rows if row[0] != "phi"]


class FormCase(unittest.TestCase):
    def form(self, value):
        self.assertIs(is_in_form(value), True, value)
        self.assertIs(is_in_form_by_words(value), True)

    def no_form(self, value):
        self.assertIs(is_in_form(value), False, value)
        self.assertIs(is_in_form_by_words(value), False)


class IsInFormTest(FormCase):
    def test_the_least_graph(self):
        self.form(one())

    def test_a_register_that_is_written_twice(self):
        self.no_form(one(word(0), word(0)))
        self.no_form(graph(((word(0),), ("jump", 1)), ((word(0),), EXIT)))
        self.no_form(graph(((word(1),), ("branch", 1, 1, 2)), ((word(0),), EXIT), ((word(0),), EXIT)))
        self.no_form(graph(((word(0),), ("jump", 1)), ((("phi", 0, ((0, 0),)),), EXIT)))
        self.form(one(word(0), word(1)))

    def test_each_instruction_that_writes(self):
        for row in (
            word(1), ("param", 1, 1), ("special", 1, "tid"), copy_of(1, 0), ("unary", "neg", 1, 0),
            ("binary", "add", 1, 0, 0), ("load", 1, TO_A, 0), ("collect", "add", 1, 0, 3),
        ):
            self.form(one(word(0), row, copy_of(2, 1)))
            self.no_form(one(word(0), row, word(1)))
            self.no_form(one(word(0), copy_of(2, 1), row))

    def test_each_instruction_that_uses(self):
        for row in (
            copy_of(1, 5), ("unary", "neg", 1, 5), ("binary", "add", 1, 5, 0), ("binary", "add", 1, 0, 5),
            ("load", 1, TO_A, 5), ("store", TO_A, 5, 0), ("store", TO_A, 0, 5), ("atomic", "add", TO_A, 5, 0),
            ("atomic", "add", TO_A, 0, 5), ("collect", "add", 1, 5, 3),
        ):
            self.no_form(one(word(0), row))
            self.no_form(one(word(0), row, word(5)))
            self.form(one(word(0), word(5), row))

    def test_a_register_that_an_instruction_uses_and_writes(self):
        self.no_form(one(copy_of(0, 0)))
        self.no_form(one(word(0), copy_of(0, 0)))

    def test_a_branch(self):
        ends = (((), EXIT), ((), EXIT))
        self.no_form(graph(((), ("branch", 0, 1, 2)), *ends))
        self.form(graph(((word(0),), ("branch", 0, 1, 2)), *ends))
        self.no_form(graph(((word(1),), ("branch", 1, 1, 2)), ((word(0),), ("jump", 3)), ((), ("jump", 3)),
                           ((), ("branch", 0, 4, 4)), ((), EXIT)))

    def test_another_node_that_dominates(self):
        start = ((word(0),), ("branch", 0, 1, 2))
        use = ((copy_of(3, 1),), EXIT)
        self.form(graph(((word(0), word(1)), ("branch", 0, 1, 2)), ((), ("jump", 3)), ((), ("jump", 3)), use))
        self.no_form(graph(start, ((word(1),), ("jump", 3)), ((), ("jump", 3)), use))
        self.no_form(graph(start, ((word(1),), EXIT), use))
        self.form(graph(start, ((word(1),), ("jump", 3)), ((), EXIT), use))

    def test_loops(self):
        self.form(graph(((word(0),), ("jump", 1)), ((copy_of(1, 0),), ("branch", 0, 1, 2)), ((copy_of(2, 1),), EXIT)))
        # Round the loop the write comes before the use, but not at first.
        self.no_form(graph(((word(0),), ("jump", 1)), ((copy_of(1, 2), word(2)), ("branch", 0, 1, 2)), ((), EXIT)))
        self.no_form(graph(((word(0),), ("jump", 1)), ((copy_of(1, 2),), ("branch", 0, 2, 3)),
                           ((word(2),), ("jump", 1)), ((), EXIT)))

    def test_a_row_of_a_phi_is_used_at_the_end_of_its_node(self):
        start = ((word(0),), ("branch", 0, 1, 2))
        rows = (((word(1),), ("jump", 3)), ((word(2),), ("jump", 3)))
        self.form(graph(start, *rows, ((("phi", 3, ((1, 1), (2, 2))),), EXIT)))
        self.form(graph(start, *rows, ((("phi", 3, ((1, 0), (2, 0))),), EXIT)))
        self.no_form(graph(start, *rows, ((("phi", 3, ((1, 2), (2, 2))),), EXIT)))
        self.no_form(graph(start, *rows, ((("phi", 3, ((1, 1), (2, 1))),), EXIT)))
        self.no_form(graph(start, *rows, ((("phi", 3, ((1, 1), (2, 4))), word(4)), EXIT)))

    def loop(self, *rows):
        """Return a graph whose node 1 leads to itself, with the words 0 and 5 in front of it."""
        return graph(((word(0), word(5)), ("jump", 1)), (rows, ("branch", 0, 1, 2)), ((), EXIT))

    def test_a_phi_that_uses_its_own_register(self):
        self.form(self.loop(("phi", 1, ((0, 0), (1, 1)))))
        self.no_form(self.loop(("phi", 1, ((0, 1), (1, 0)))))

    def test_phis_that_use_each_others(self):
        self.form(self.loop(("phi", 1, ((0, 0), (1, 2))), ("phi", 2, ((0, 5), (1, 1)))))
        self.no_form(self.loop(("phi", 1, ((0, 0), (1, 2))), ("phi", 2, ((0, 1), (1, 1)))))

    def test_a_row_of_what_is_written_last_in_its_node(self):
        self.form(self.loop(("phi", 1, ((0, 0), (1, 2))), word(3), word(2)))

    def test_a_phi_writes_before_all_other_instructions(self):
        self.form(self.loop(("phi", 1, ((0, 0), (1, 2))), ("phi", 3, ((0, 5), (1, 3))), copy_of(2, 1), copy_of(4, 3)))

    def test_unused_registers_do_not_matter(self):
        self.form(graph(((word(0),), EXIT), registers=1000))

    def test_random_graphs(self):
        found = {True: 0, False: 0}
        for seed in range(400):
            value = random_graph(seed, most_registers=40)
            for each in (value, in_form(value), random_form(seed)):
                found[is_in_form(each)] += 1
                self.assertEqual(is_in_form(each), is_in_form_by_words(each), each)
        self.assertGreater(found[False], 100)

    def test_graphs_in_form_with_another_register(self):
        found = {True: 0, False: 0}
        for seed in range(150):
            value = random_form(seed)
            for number in range(0, value[2], 3):
                for other in range(1, value[2], 3):
                    each = replaced_once(value, number, other, seed)
                    found[is_in_form(each)] += 1
                    self.assertEqual(is_in_form(each), is_in_form_by_words(each), each)
        self.assertGreater(min(found.values()), 100)


def replaced_once(value, number, other, seed):
    """Return a graph in which one use of a register is one of another register."""
    uses = [(node, at) for used, node, at in uses_of(value) if used == number and at < 10000]
    if not uses:
        return value
    node, at = uses[seed % len(uses)]
    rows, end = value[3][node]
    row = tuple(other if index in used_at(rows[at]) and part == number else part for index, part in enumerate(rows[at]))
    nodes = list(value[3])
    nodes[node] = (rows[:at] + (row,) + rows[at + 1:], end)
    return value[:3] + (tuple(nodes),)


class InFormTest(FormCase):
    def formed(self, value):
        """Return the graph in form, and check all that does not depend on launches."""
        result = in_form(value)
        self.assertIsNone(check_graph(result))
        self.form(result)
        self.assertEqual(result[:2], value[:2])
        self.assertEqual(len(result[3]), len(value[3]))
        for node, ((rows, end), (old_rows, old_end)) in enumerate(zip(result[3], value[3])):
            self.assertEqual(as_shape(end), as_shape(old_end))
            told, expected = body(rows), body(old_rows)
            if node == 0 and told != expected:
                self.assertEqual(told[0][0], "word")
                told = told[1:]
            self.assertEqual(told, expected)
        return result

    def same(self, value, starts=(launch(2, 2), launch(1, 3, n=0))):
        result = self.formed(value)
        return [does_the_same(self, value, result, start) for start in starts]

    def test_graphs_without_joins(self):
        value = one(word(0, 3), copy_of(0, 0), ("unary", "neg", 0, 0), *stores(0))
        self.assertEqual(self.same(value, [launch()]), ["ok"])
        self.assertEqual(phis(in_form(value)), [])

    def test_registers_that_are_never_written_are_0(self):
        value = one(("binary", "add", 1, 0, 3), ("unary", "not", 2, 7), *stores(0, 1, 2))
        result = self.formed(value)
        self.assertEqual(result[3][0][0][0], ("word", result[3][0][0][0][1], 0))
        self.assertEqual(len(instructions(result)), len(instructions(value)) + 1)
        self.assertEqual(run_graph(result, launch(a=(9,) * 4), [], 99)[1][0], (0, 0, -1, 9))

    def test_no_word_where_none_is_needed(self):
        value = one(word(0, 1), *stores(0))
        self.assertEqual(len(instructions(self.formed(value))), len(instructions(value)))

    def test_a_register_that_is_0_on_one_way(self):
        start = ((("special", 0, "tid"),), ("branch", 0, 1, 2))
        value = graph(start, ((word(1, 5),), ("jump", 3)), ((), ("jump", 3)), ((("store", TO_A, 0, 1),), EXIT))
        self.assertEqual(self.same(value, [launch(1, 3)]), ["ok"])
        self.assertEqual(len(phis(in_form(value))), 1)

    def test_a_register_that_is_0_in_the_first_round(self):
        value = graph(
            ((word(0, 3), word(1, 1)), ("jump", 1)),
            ((("binary", "add", 2, 2, 0), ("binary", "sub", 0, 0, 1)), ("branch", 0, 1, 2)), (stores(2, 0), EXIT),
        )
        self.assertEqual(self.same(value, [launch()]), ["ok"])
        self.assertEqual(run_graph(in_form(value), launch(), [], 99)[1][0][:2], (6, 0))

    def test_a_word_in_front_of_a_loop_at_node_0(self):
        value = graph(((("binary", "add", 0, 0, 1),), ("branch", 1, 1, 1)), (stores(0, 1), EXIT))
        self.assertEqual(self.same(value, [launch()]), ["ok"])

    def test_a_branch_on_a_register_that_is_never_written(self):
        value = graph(((), ("branch", 5, 1, 2)), (stores(0), EXIT), ((word(3, 4),) + stores(3), EXIT))
        self.assertEqual(self.same(value, [launch()]), ["ok"])

    def test_joins(self):
        start = ((("special", 0, "tid"),), ("branch", 0, 1, 2))
        value = graph(
            start, ((word(1, 5), word(2, 6)), ("jump", 3)), ((word(1, 7), copy_of(2, 1)), ("jump", 3)),
            ((("binary", "sub", 3, 1, 2), ("store", TO_A, 0, 3)), EXIT),
        )
        self.assertEqual(self.same(value, [launch(1, 3)]), ["ok"])
        self.assertEqual(len(phis(in_form(value))), 2)

    def test_loops(self):
        value = graph(
            ((word(0, 4), word(1, 1), word(2, 10), word(3, 20)), ("jump", 1)),
            ((copy_of(4, 2), copy_of(2, 3), copy_of(3, 4), ("binary", "sub", 0, 0, 1)), ("branch", 0, 1, 2)),
            (stores(2, 3), EXIT),
        )
        self.assertEqual(self.same(value, [launch()]), ["ok"])

    def test_an_endless_graph(self):
        self.formed(graph(((word(0),), ("jump", 1)), ((("binary", "add", 0, 0, 1),), ("jump", 1))))

    def test_a_node_that_leads_to_itself_and_reads_before_it_writes(self):
        value = graph(
            ((word(0, 3), word(1, 1)), ("jump", 1)),
            ((copy_of(3, 2), copy_of(2, 0), ("binary", "sub", 0, 0, 1)), ("branch", 0, 1, 2)), (stores(2, 3), EXIT),
        )
        self.assertEqual(self.same(value, [launch()]), ["ok"])

    def test_a_graph_with_a_phi(self):
        for value in (
            graph(((word(0),), ("jump", 1)), ((("phi", 1, ((0, 0),)),), EXIT)),
            graph(((word(0),), ("jump", 1)), ((), ("jump", 2)), ((("phi", 1, ((1, 2),)), word(1)), EXIT)),
        ):
            with self.assertRaises(BadGraph) as caught:
                in_form(value)
            self.assertIs(type(caught.exception), BadGraph)

    def test_random_graphs(self):
        ends = {}
        for seed in range(300):
            for end in self.same(random_graph(seed, seed % 2 == 0), [random_launch(seed)]):
                ends[end] = ends.get(end, 0) + 1
        self.assertGreater(ends["ok"], 80)
        self.assertGreater(ends["stuck"], 0)

    def test_graphs_of_kernels(self):
        for seed in range(150):
            self.same(lowered(random_kernel(seed, seed % 3 == 0)), [random_launch(seed)])


class StuckTest(FormCase):
    def test_launches_that_are_stuck(self):
        value = graph(
            ((("special", 0, "tid"), word(1, 3)), ("branch", 0, 1, 2)),
            ((word(1, 4), ("barrier", 1)), ("jump", 3)), ((("store", TO_A, 1, 1), ("barrier", 2)), ("jump", 3)),
            ((("store", TO_A, 0, 1),), EXIT),
        )
        formed = in_form(value)
        self.assertEqual(len(phis(formed)), 1)
        for start in (launch(1, 2), launch(2, 3)):
            for first, second in ((value, formed), (formed, out_of_form(formed))):
                self.assertEqual(does_the_same(self, first, second, start), "stuck" if start[0] == 1 else "racing")


class OutOfFormTest(FormCase):
    def left(self, value):
        result = out_of_form(value)
        self.assertIsNone(check_graph(result))
        self.assertEqual(phis(result), [])
        self.assertEqual(result[:2], value[:2])
        return result

    def same(self, value, starts=(launch(),)):
        check_graph(value)
        self.form(value)
        result = self.left(value)
        return [does_the_same(self, value, result, start) for start in starts]

    def loop(self, *rows, rounds=4):
        """Check a graph that goes so often round node 1, with phis of the registers 0 to 2."""
        value = graph(
            ((word(3, 10), word(4, 20), word(5, 30), word(6, rounds), word(7, 1)), ("jump", 1)),
            (rows + (("phi", 8, ((0, 6), (1, 9))), ("binary", "sub", 9, 8, 7)), ("branch", 9, 1, 2)),
            (stores_once(*[row[1] for row in rows]), EXIT), registers=30,
        )
        self.assertEqual(self.same(value), ["ok"])

    def test_phis_that_exchange_registers(self):
        for rounds in (1, 2, 3, 4):
            self.loop(("phi", 0, ((0, 3), (1, 1))), ("phi", 1, ((0, 4), (1, 0))), rounds=rounds)

    def test_phis_that_turn_three(self):
        rows = (("phi", 0, ((0, 3), (1, 1))), ("phi", 1, ((0, 4), (1, 2))), ("phi", 2, ((0, 5), (1, 0))))
        for rounds in (1, 2, 3, 4, 5):
            self.loop(*rows, rounds=rounds)
            self.loop(*rows[::-1], rounds=rounds)

    def test_a_phi_that_reads_what_another_one_writes(self):
        first, second = ("phi", 0, ((0, 3), (1, 5))), ("phi", 1, ((0, 4), (1, 0)))
        for rounds in (1, 2, 3):
            self.loop(first, second, rounds=rounds)
            self.loop(second, first, rounds=rounds)
            self.loop(("phi", 0, ((0, 3), (1, 9))), second, rounds=rounds)

    def test_a_phi_of_itself(self):
        self.loop(("phi", 0, ((0, 3), (1, 0))))

    def test_a_phi_that_is_used_behind_the_loop(self):
        # The register 8 is used behind the loop, where 9 is what the next round would have got.
        value = graph(
            ((word(3, 4), word(7, 1)), ("jump", 1)),
            ((("phi", 8, ((0, 3), (1, 9))), ("binary", "sub", 9, 8, 7)), ("branch", 9, 1, 2)),
            (stores_once(8, 9), EXIT), registers=30,
        )
        self.assertEqual(self.same(value), ["ok"])
        self.assertEqual(run_graph(out_of_form(value), launch(), [], 99)[1][0][:2], (1, 0))

    def test_a_branch_of_which_only_one_way_leads_to_phis(self):
        for number in (0, 1):
            value = graph(
                ((word(0, number), word(1, 5), word(2, 6)), ("branch", 0, 1, 2)), ((), ("jump", 2)),
                ((("phi", 3, ((0, 1), (1, 2))), ("phi", 4, ((0, 2), (1, 1)))) + stores_once(3, 4, 1, 2), EXIT),
                registers=30,
            )
            self.assertEqual(self.same(value), ["ok"])

    def test_a_branch_on_a_register_that_a_phi_gets(self):
        for number in (0, 1, 3):
            value = graph(
                ((word(0, number), word(1, 1)), ("branch", 0, 1, 2)),
                ((("phi", 2, ((0, 0), (1, 3))), ("binary", "sub", 3, 2, 1)), ("branch", 2, 1, 2)),
                ((("phi", 5, ((0, 0), (1, 2))), ("phi", 6, ((0, 1), (1, 3)))) + stores_once(5, 6), EXIT), registers=30,
            )
            self.assertEqual(self.same(value), ["ok"])

    def test_two_nodes_with_phis_behind_one_branch(self):
        for number in (0, 1):
            value = graph(
                ((word(0, number), word(1, 5), word(2, 6)), ("branch", 0, 1, 2)),
                ((("phi", 3, ((0, 1),)), ("phi", 4, ((0, 2),))) + stores_once(3, 4), EXIT),
                ((("phi", 5, ((0, 2),)), ("phi", 6, ((0, 1),))) + stores_once(5, 6, first=20), EXIT), registers=50,
            )
            self.assertEqual(self.same(value), ["ok"])

    def test_a_branch_that_leads_to_one_node_twice(self):
        for number in (0, 1):
            value = graph(
                ((word(0, number), word(1, 5)), ("branch", 0, 1, 1)),
                ((("phi", 3, ((0, 1),)), ("phi", 4, ((0, 0),))) + stores_once(3, 4), EXIT), registers=30,
            )
            self.assertEqual(self.same(value), ["ok"])

    def test_a_graph_without_phis(self):
        value = one(word(0, 3), ("unary", "neg", 1, 0), *stores_once(1, first=2))
        self.assertEqual(self.same(value), ["ok"])
        self.assertEqual(len(instructions(out_of_form(value))), len(instructions(value)))

    def test_not_in_form(self):
        for value in (
            one(word(0), word(0)), one(copy_of(0, 1)), graph(((), ("branch", 0, 1, 1)), ((), EXIT)),
            graph(((word(0),), ("jump", 1)), ((("phi", 0, ((0, 0),)),), EXIT)),
        ):
            with self.assertRaises(NotInForm) as caught:
                out_of_form(value)
            self.assertIs(type(caught.exception), NotInForm)

    def test_not_in_form_exactly(self):
        found = {True: 0, False: 0}
        for seed in range(200):
            value = random_graph(seed, most_registers=40)
            told = is_in_form_by_words(value)
            found[told] += 1
            if told:
                self.left(value)
            else:
                with self.assertRaises(NotInForm):
                    out_of_form(value)
        self.assertGreater(min(found.values()), 10)

    def test_random_graphs(self):
        ends, mixed = {}, 0
        for seed in range(400):
            value = random_form(seed, seed % 2 == 0)
            writes = [{row[1] for row in rows if row[0] == "phi"} for rows, _ in value[3]]
            mixed += any(
                number in own and number != row[1] for (rows, _), own in zip(value[3], writes)
                for row in rows if row[0] == "phi" for _, number in row[2]
            )
            for end in self.same(value, [random_launch(seed), random_launch(seed + 1000)]):
                ends[end] = ends.get(end, 0) + 1
        self.assertGreater(mixed, 20)
        self.assertGreater(ends["ok"], 100)

    def test_graphs_of_kernels(self):
        for seed in range(150):
            value = in_form(lowered(random_kernel(seed, seed % 3 == 0)))
            self.same(value, [random_launch(seed)])
            self.same(with_other_rows(value, seed), [random_launch(seed)])


def stores_once(*numbers, first=10):
    """Return instructions that store registers in the cells of the buffer a, each written once."""
    rows = []
    for cell, number in enumerate(numbers):
        rows += [word(first + cell, cell), ("store", TO_A, first + cell, number)]
    return tuple(rows)


class Large(GraphMaker):
    """Makes large graphs with many joins."""

    def large(self, many, registers, rows):
        nodes = []
        for node in range(many):
            body = tuple(self.instruction(registers) for _ in range(rows))
            ways = [min(node + 1, many - 1), self.dice.randrange(1, many) if many > 1 else 0]
            if many == 1 or node == many - 1:
                nodes.append((body, EXIT))
            else:
                nodes.append((body, ("branch", self.dice.randrange(registers), *ways)))
        value = (PARAMS_OF_RANDOM, SHARED_OF_RANDOM, registers, tuple(nodes))
        check_graph(value)
        return value


PARAMS_OF_RANDOM = (("a", "buffer"), ("n", "int"), ("b", "buffer"), ("m", "int"))
SHARED_OF_RANDOM = (("s", 8), ("t", 3))


def nest(many, registers):
    """Return a graph with so many loops one in the other, the innermost of which writes all registers."""
    rows = range(registers)
    nodes = [(tuple(word(number, number) for number in rows), ("jump", 1))]
    nodes += [((), ("jump", head + 1)) for head in range(1, many + 1)]
    nodes.append((tuple(("unary", "not", number, number) for number in rows), ("jump", many + 2)))
    nodes += [((), ("branch", 0, many - tail, many + 3 + tail)) for tail in range(many)]
    nodes.append((tuple(("store", TO_A, number, number) for number in rows), EXIT))
    value = (PARAMS, SHARED, registers, tuple(nodes))
    check_graph(value)
    return value


class SizesTest(FormCase):
    def measure(self, value):
        """Return the number up to which in_form raises no error if it is less than 900."""
        nodes = len(value[3])
        return nodes + len(instructions(value)) + nodes * len(occurring_ones(value))

    def test_in_form_up_to_the_stated_numbers(self):
        near = 0
        for seed in range(60):
            maker = Large(seed)
            many = maker.dice.randrange(2, 60)
            registers = max(1, min(400, (890 - many * 3) // many))
            rows = maker.dice.randrange(0, max(1, (899 - many - many * registers) // many + 1))
            value = maker.large(many, registers, rows)
            if self.measure(value) < 900:
                near += self.measure(value) > 700
                self.assertIsNone(check_graph(in_form(value)))
        self.assertGreater(near, 10)
        for many, registers in ((5, 50), (10, 30), (20, 15), (50, 6), (100, 2)):
            value = nest(many, registers)
            self.assertLess(self.measure(value), 900)
            self.assertGreater(self.measure(value), 600)
            result = in_form(value)
            self.form(result)
            self.assertEqual(len(phis(result)), many * registers)

    def test_in_form_beyond(self):
        raised = 0
        for many, registers in ((20, 30), (40, 40), (60, 60), (100, 9), (100, 20), (190, 5), (2, 300)):
            value = nest(many, registers)
            try:
                result = in_form(value)
                self.assertIsNone(check_graph(result))
            except TooLarge as error:
                raised += 1
                self.assertIs(type(error), TooLarge)
        self.assertEqual(raised, 6)

    def test_in_form_just_at_the_bound(self):
        # One node, the word that is 0, and the others.
        row = ("store", TO_A, 0, 0)
        self.assertEqual(len(instructions(in_form(one(*[row] * 998)))), 999)
        with self.assertRaises(TooLarge):
            in_form(one(*[row] * 999))
        self.assertEqual(len(instructions(in_form(one(word(0), *[row] * 998)))), 999)

    def test_in_form_with_registers_that_do_not_occur(self):
        value = graph(((word(999), ("store", TO_A, 500, 999)), EXIT), registers=1000)
        self.form(in_form(value))

    def test_out_of_form_up_to_the_stated_numbers(self):
        near = 0
        for seed in range(60):
            maker = Large(seed, True)
            value = maker.large(maker.dice.randrange(2, 30), maker.dice.randrange(2, 20), maker.dice.randrange(0, 9))
            try:
                value = in_form(value)
            except TooLarge:
                continue
            many = len(value[3]) + len(instructions(value)) + rows_of_phis(value)
            if many < 900:
                near += many > 500
                self.assertIsNone(check_graph(out_of_form(value)))
        self.assertGreater(near, 5)

    def test_out_of_form_where_all_phis_exchange_registers(self):
        for ways, many in ((1, 200), (5, 90), (10, 60), (30, 24)):
            value = exchanging(ways, many)
            self.assertLess(len(value[3]) + len(instructions(value)) + rows_of_phis(value), 900)
            result = out_of_form(value)
            self.assertIsNone(check_graph(result))
            self.assertEqual(does_the_same(self, value, result, launch(), 5000), "ok")

    def test_out_of_form_beyond(self):
        raised = 0
        for ways, many in ((2, 300), (10, 90), (30, 30), (20, 45)):
            value = exchanging(ways, many)
            try:
                self.assertIsNone(check_graph(out_of_form(value)))
            except TooLarge as error:
                raised += 1
                self.assertIs(type(error), TooLarge)
        self.assertGreater(raised, 1)

    def test_out_of_form_with_registers_that_do_not_occur(self):
        value = graph(((word(999),), ("jump", 1)), ((("phi", 998, ((0, 999),)), copy_of(5, 998)), EXIT), registers=1000)
        self.assertIsNone(check_graph(out_of_form(value)))


def exchanging(ways, many):
    """Return a graph in form with a loop of so many ways back, each of which exchanges so many phis."""
    # The loop counts down with the register 0; the ways back are the nodes behind its first one.
    first = (word(0, ways + 1), word(1, 1), word(2, 2))
    phi_rows = [("phi", 3, ((0, 0),) + tuple((2 + k, 4) for k in range(ways)))]
    for k in range(many):
        other = 5 + (k ^ 1 if k ^ 1 < many else k)
        phi_rows.append(("phi", 5 + k, ((0, 1 + k % 2),) + tuple((2 + way, other) for way in range(ways))))
    nodes = [(first, ("jump", 1)), (tuple(phi_rows) + (("binary", "sub", 4, 3, 1),), ("branch", 4, 2, ways + 2))]
    for way in range(ways):
        nodes.append(((), ("branch", 4, 1, 3 + way) if way < ways - 1 else ("jump", 1)))
    nodes.append((stores_once(5, 5 + many - 1, first=5 + many), EXIT))
    value = (PARAMS, SHARED, 10 + many, tuple(nodes))
    check_graph(value)
    return value


class ArgumentTest(unittest.TestCase):
    def test_the_graph_stays_and_results_are_equal(self):
        for seed in range(30):
            value = random_graph(seed)
            formed = in_form(value)
            before = copy.deepcopy((value, formed))
            self.assertEqual(in_form(value), formed)
            self.assertEqual(out_of_form(formed), out_of_form(formed))
            is_in_form(value)
            self.assertEqual((value, formed), before)


if __name__ == "__main__":
    unittest.main()
