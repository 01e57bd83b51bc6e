"""Points 25 and 26: the code of flow graphs and of kernels."""

import copy
import random
import unittest

from drawloom.codes import check_code, run_code
from drawloom.emitting import compiled, emitted
from drawloom.errors import BadGraph, TooLarge
from drawloom.forming import in_form, out_of_form
from drawloom.graphs import check_graph, run_graph
from drawloom.improving import improved
from drawloom.kernels import check_kernel, statements
from drawloom.lowering import lowered
from drawloom.meaning import run
from drawloom.places import assigned, clashes, is_right
from drawloom.words import BINARY, FOLDING, UNARY
from tests.randoms import random_graph, random_kernel, random_launch, random_turns, size
from tests.reference import SlowCode, SlowGraph
from tests.same import random_form
from tests.samples import EVERYTHING
from tests.shapes import SHAPES, immediate, is_postdominated, random_shape
from tests.short import PARAMS, SHARED, launch
from tests.shortcode import EXIT, TO_A, TO_B, TO_S, TO_T

NODE = ((), EXIT)
MANY_TURNS = ([], [-1] * 600, random_turns(3, 300))


def graph(*nodes, registers=6):
    value = (PARAMS, SHARED, registers, nodes)
    check_graph(value)
    return value


def cells_alone(value):
    """Return an assignment with a local cell of its own for each register."""
    return tuple(-1 - number for number in range(value[2]))


def any_places(value, seed):
    """Return a random assignment that is right for 5, of registers and local cells."""
    dice = random.Random(seed)
    pairs = clashes(value)
    places = [None] * value[2]
    for number in dice.sample(range(value[2]), value[2]):
        taken = {places[a + b - number] for a, b in pairs if number in (a, b)}
        few = [place for place in range(-4, 5) if place not in taken]
        places[number] = dice.choice(few or [place for place in range(-64, -4) if place not in taken])
    return tuple(places)


def assignments(value, seed=0):
    """Return several assignments that are right for 5."""
    found = [any_places(value, seed), any_places(value, seed + 1)] + [assigned(value, k) for k in (1, 2, 5)]
    return found + ([cells_alone(value)] if value[2] <= 64 else [])


def all_rows(value):
    return [row for rows, _ in value[3] for row in rows]


class EmittingCase(unittest.TestCase):
    def code_of(self, value, places):
        """Return the code of a graph, and check what can be seen of it."""
        self.assertTrue(is_right(value, places, 5))
        result = emitted(value, places)
        self.assertIsNone(check_code(result))
        self.assertEqual(result[:2], value[:2])
        self.assertEqual(result[2], max([-place for place in places if place < 0], default=0))
        self.check_pieces(value, places, result[3])
        return result

    def starts(self, value, places, rows):
        """Return the indices at which the pieces of the nodes begin, and check that there is nothing else.

        Each end is written as short as can be where the nodes stand in their order.
        """
        starts, ends, at = [], [], 0
        for node, (instructions, end) in enumerate(value[3]):
            starts.append(at)
            for row in instructions:
                at += self.match(row, places, rows[at:at + 4])
            if end[0] == "branch" and places[end[1]] < 0:
                self.assertEqual(rows[at], ("get", rows[at][1], -1 - places[end[1]]))
                at += 1
            ends.append((at, end, node + 1))
            at += len(end_words(end, node + 1))
        self.assertEqual(at, len(rows))
        return starts + [at], ends

    def match(self, row, places, rows):
        """Check the rows that stand for an instruction, and return how many there are."""
        if row[0] == "copy":
            here = places[row[1]] >= 0 or places[row[2]] >= 0
            return 0 if places[row[1]] == places[row[2]] else 1 if here else 2
        many = 0
        while rows[many][0] == "get":
            many += 1
        self.assertEqual(rows[many][0], row[0])
        self.assertEqual(
            [part for part in rows[many] if type(part) is str], [part for part in row if type(part) is str])
        many += 1
        at = {"word": 1, "param": 1, "special": 1, "load": 1, "unary": 2, "binary": 2, "collect": 2}.get(row[0])
        if at and places[row[at]] < 0:
            self.assertEqual(rows[many][:2], ("keep", -1 - places[row[at]]))
            return many + 1
        if at:
            self.assertEqual(rows[many - 1][at], places[row[at]])
        return many

    def check_pieces(self, value, places, rows):
        starts, ends = self.starts(value, places, rows)
        for node, (at, end, following) in enumerate(ends):
            found = rows[at:at + len(end_words(end, following))]
            self.assertEqual([row[0] for row in found], end_words(end, following))
            if end[0] == "branch":
                self.assertEqual(found[0][2], starts[end[2]])
                # Without an immediate postdominator this is the number of instructions.
                self.assertEqual(found[0][3], starts[immediate(value, node, is_postdominated)])
                self.check_join(rows, at)
            if found and found[-1][0] == "jump":
                self.assertEqual(found[-1], ("jump", starts[end[-1]]))

    def check_join(self, rows, branch):
        """Check that each way from a branch to an exit goes through its join, if that is an instruction."""
        join = rows[branch][3]
        seen, waiting = {join}, [branch]
        while waiting and join < len(rows):
            at = waiting.pop()
            row = rows[at]
            self.assertNotEqual(row[0], "exit")
            for way in {"jump": row[1:2], "branch": (at + 1, row[2:3] and row[2])}.get(row[0], (at + 1,)):
                if way not in seen:
                    seen.add(way)
                    waiting.append(way)

    def same(self, value, places, start, enough=150):
        """Check the code of a graph by runs; return the end of the launch."""
        result = self.code_of(value, places)
        ends = set()
        for turns in MANY_TURNS:
            slow = SlowGraph(value, start, enough)
            end, memory, races, _ = slow.run(turns)
            if races or end == "fuel":
                continue
            ends.add(end)
            for others in MANY_TURNS:
                told = run_code(result, start, others, 6 * max(slow.done) + 10)
                self.assertEqual((told[0], told[2]), (end, []), (value, places, start))
                if end == "ok":
                    self.assertEqual(told[1], memory, (value, places, start))
            if end == "ok":
                other = SlowCode(result, start, 10 * enough)
                other.run(turns)
                for many, most in zip(other.done, slow.done):
                    self.assertLessEqual(many, 6 * most + 10)
        return "/".join(sorted(ends))


def end_words(end, following):
    """Return the first words of the rows of an end, apart from what gets the register of a branch."""
    if end[0] == "jump":
        return ["jump"] if end[1] != following else []
    if end[0] == "branch":
        return ["branch"] + (["jump"] if end[3] != following else [])
    return ["exit"]


# All the registers from 0 to 5 are live most of the time, and all is stored at the end.
NUMBER = (
    ("special", 0, "bid"), ("special", 1, "dim"), ("binary", "mul", 0, 0, 1), ("special", 1, "tid"),
    ("binary", "add", 0, 0, 1),
)
STARTS = (launch(1, 4, n=-3), launch(2, 3, a=(5, 6, 7, 0, -1, 2, 9, 8)))


class InstructionsTest(EmittingCase):
    def test_each_instruction(self):
        rows = [("word", 2, -9), ("param", 2, 1), ("special", 2, "grid"), ("copy", 2, 3), ("copy", 2, 2),
                ("load", 2, TO_A, 0), ("load", 0, TO_B, 0), ("load", 2, TO_S, 1), ("load", 2, TO_S, 3),
                ("store", TO_B, 0, 2), ("store", TO_S, 1, 1), ("barrier", 8)]
        rows += [("unary", op, 2, 3) for op in UNARY] + [("unary", "not", 2, 2)]
        rows += [("binary", op, 2, 3, 4) for op in BINARY]
        rows += [("binary", "sub", 2, 2, 4), ("binary", "sub", 2, 4, 2), ("binary", "mul", 2, 3, 3)]
        rows += [("atomic", op, TO_T, 1, 3) for op in FOLDING] + [("collect", op, 2, 3, 7) for op in FOLDING]
        rows += [("collect", "add", 2, 2, 7)]
        for row in rows:
            value = graph((NUMBER + (
                ("word", 2, 70), ("unary", "not", 3, 0), ("param", 4, 1), ("copy", 5, 0), row,
                ("binary", "xor", 2, 2, 3), ("binary", "add", 2, 2, 4), ("binary", "sub", 2, 2, 1),
                ("store", TO_A, 5, 2),
            ), EXIT))
            for places in assignments(value):
                self.assertEqual(self.same(value, places, STARTS[len(row) % 2]), "ok", row)

    def test_registers_are_0_at_first(self):
        value = graph((NUMBER + (
            ("binary", "add", 2, 3, 4), ("binary", "add", 2, 2, 5), ("store", TO_A, 0, 2)), EXIT))
        for places in assignments(value):
            self.assertEqual(self.same(value, places, STARTS[1]), "ok")

    def test_both_parts_of_an_instruction_in_local_cells(self):
        rows = (("word", 0, 3), ("word", 1, 5), ("binary", "sub", 2, 0, 1), ("store", TO_A, 0, 2), ("store", TO_A, 1, 1),
                ("binary", "add", 2, 2, 2), ("atomic", "add", TO_B, 0, 2))
        value = graph((rows, EXIT), registers=3)
        for places in ((-1, -2, -3), (-64, -2, 0), (4, -1, -2), (-1, 0, -2), (0, 1, -9), (0, 1, 2)):
            result = self.code_of(value, places)
            self.assertEqual(run_code(result, launch(), [], 100)[1], (
                (0, 0, 0, -2, 0, 5, 0, 0), (0, 0, 0, -4, 0, 0, 0, 0)))

    def test_a_step_is_few_instructions(self):
        value = graph(((("binary", "add", 0, 1, 2),), EXIT), registers=3)
        self.assertEqual(len(self.code_of(value, (-1, -2, -3))[3]), 5)
        self.assertEqual(len(self.code_of(value, (0, 1, 2))[3]), 2)

    def test_copies(self):
        value = graph((NUMBER + (("copy", 2, 0), ("unary", "neg", 0, 0), ("copy", 3, 2), ("store", TO_A, 3, 0)), EXIT))
        for places in assignments(value):
            self.assertEqual(self.same(value, places, STARTS[1]), "ok")
        # What is in its place already needs no instruction.
        value = graph(((("copy", 1, 0),), EXIT), registers=2)
        self.assertEqual(len(self.code_of(value, (3, 3))[3]), 1)
        self.assertEqual(len(self.code_of(value, (-3, -3))[3]), 1)
        self.assertEqual(len(self.code_of(value, (2, 3))[3]), 2)


class WaysTest(EmittingCase):
    def counted(self, many):
        """Return a graph with a loop that adds up many words, and a branch in it."""
        return graph(
            (NUMBER + (("word", 2, many), ("word", 3, 1)), ("jump", 1)),
            ((), ("branch", 2, 2, 5)),
            ((("binary", "and", 4, 2, 3),), ("branch", 4, 3, 4)),
            ((("binary", "add", 5, 5, 2),), ("jump", 4)),
            ((("binary", "sub", 2, 2, 3),), ("jump", 1)),
            ((("store", TO_A, 0, 5),), EXIT),
        )

    def test_loops(self):
        for many in (0, 1, 5):
            value = self.counted(many)
            for places in assignments(value):
                self.assertEqual(self.same(value, places, STARTS[1]), "ok")

    def test_both_ways_lead_on(self):
        # None of the two ways of the branch is the node that comes next.
        value = graph(
            (NUMBER, ("branch", 1, 3, 2)), ((("store", TO_A, 0, 2),), EXIT), ((("word", 2, 8),), ("jump", 1)),
            ((("word", 2, 9),), ("jump", 1)),
        )
        for places in assignments(value):
            self.assertEqual(self.same(value, places, STARTS[1]), "ok")

    def test_a_branch_that_leads_to_one_node_twice(self):
        for value in (
            graph((NUMBER, ("branch", 1, 1, 1)), ((("store", TO_A, 0, 1),), ("branch", 0, 3, 2)),
                  ((("word", 2, 9),), ("branch", 1, 3, 3)), NODE),
            graph((NUMBER, ("branch", 1, 2, 2)), ((("store", TO_A, 0, 1),), EXIT), ((("word", 1, 4),), ("jump", 1))),
        ):
            for places in assignments(value):
                self.assertEqual(self.same(value, places, STARTS[1]), "ok")

    def test_nodes_that_lead_to_themselves(self):
        value = graph(
            (NUMBER + (("word", 2, 4), ("word", 3, 1)), ("jump", 1)),
            ((("binary", "sub", 2, 2, 3), ("binary", "add", 4, 4, 2)), ("branch", 2, 1, 2)),
            ((("store", TO_A, 0, 4),), EXIT),
        )
        for places in assignments(value):
            self.assertEqual(self.same(value, places, STARTS[1]), "ok")
        value = graph(((), ("jump", 1)), ((), ("jump", 1)))
        self.assertEqual(self.code_of(value, (0,) * 6)[3], (("jump", 0),))
        value = graph(((), ("jump", 1)), ((), ("branch", 0, 1, 1)))
        self.assertEqual(run_code(self.code_of(value, (0,) * 6), launch(), [], 50)[0], "fuel")

    def test_several_exits_and_none(self):
        value = graph(
            (NUMBER, ("branch", 0, 1, 2)), ((("store", TO_A, 0, 0),), EXIT), ((("word", 1, 7),), ("branch", 1, 3, 4)),
            ((("store", TO_A, 0, 1),), EXIT), NODE,
        )
        for places in assignments(value):
            result = self.code_of(value, places)
            self.assertEqual(self.same(value, places, STARTS[1]), "ok")
            joins = {row[3] for row in result[3] if row[0] == "branch"}
            self.assertEqual(joins, {len(result[3])})

    def test_stuck_launches(self):
        value = graph(
            ((("special", 0, "tid"),), ("branch", 0, 1, 2)), ((("barrier", 3),), ("jump", 3)), ((("barrier", 4),), ("jump", 3)),
            NODE,
        )
        for places in assignments(value):
            self.assertEqual(self.same(value, places, launch(1, 2)), "stuck")
            self.assertEqual(self.same(value, places, launch(3, 1)), "ok")

    def test_joins_of_nodes_for_which_nothing_is_written(self):
        value = graph(
            ((("special", 0, "tid"),), ("branch", 0, 1, 2)), ((("word", 1, 1),), ("jump", 3)), ((("word", 1, 2),), ("jump", 3)),
            ((), ("jump", 4)), ((("copy", 1, 1),), ("jump", 5)), ((("word", 3, 7),), EXIT),
        )
        rows = self.code_of(value, (0, 1, 2, 3, 4, 0))[3]
        self.assertEqual(rows, (
            ("special", 0, "tid"), ("branch", 0, 3, 6), ("jump", 5), ("word", 1, 1), ("jump", 6), ("word", 1, 2),
            ("word", 3, 7), EXIT,
        ))

    def test_markers(self):
        # A word of its own tells where the piece of each node begins.
        values = list(SHAPES.values()) + [random_shape(seed) for seed in range(150)]
        for seed, value in enumerate(values):
            dice = random.Random(seed)
            nodes = []
            for node, (_, end) in enumerate(value[3]):
                rows = tuple(("word", 1, 1000 * (at + 1) + node) for at in range(dice.choice((1, 1, 2, 3))))
                nodes.append((rows, end))
            value = ((), (), 2, tuple(nodes))
            for places in ((0, 1), (-1, 1), (2, -5), (-3, -1)):
                rows = self.code_of(value, places)[3]
                words = [row[2] for row in rows if row[0] == "word"]
                self.assertEqual(sorted(words), sorted(row[2] for row in all_rows(value)))
                starts = {row[2] - 1000: at for at, row in enumerate(rows) if row[0] == "word" and row[2] < 2000}
                owners = [max((start, node) for node, start in starts.items() if start <= at)[1] for at in range(len(rows))]
                for at, row in enumerate(rows):
                    if row[0] == "branch":
                        end = value[3][owners[at]][1]
                        join = immediate(value, owners[at], is_postdominated)
                        self.assertEqual((row[2], row[3]), (starts[end[2]], starts.get(join, len(rows))))
                    if row[0] == "word":
                        self.assertEqual(owners[at], row[2] % 1000)

    def test_shapes_with_and_without_instructions(self):
        for seed in range(200):
            dice = random.Random(seed)
            value = SHAPES[sorted(SHAPES)[seed % len(SHAPES)]] if seed < len(SHAPES) else random_shape(seed)
            nodes = tuple((((), (("word", 1, 4),), (("copy", 1, 2),))[dice.randrange(3)], end) for _, end in value[3])
            for places in ((0, 1, 1), (0, 1, 2), (-1, -2, 4), (-3, -2, -1)):
                if is_right(((), (), 3, nodes), places, 5):
                    self.code_of(((), (), 3, nodes), places)


class RandomTest(EmittingCase):
    def test_random_graphs(self):
        ends = {}
        for seed in range(240):
            value = random_graph(seed, seed % 3 > 0)
            for places in (any_places(value, seed), assigned(value, 1 + seed % 5), cells_alone(value)):
                end = self.same(value, places, random_launch(seed), 60)
                ends[end] = ends.get(end, 0) + 1
        self.assertGreater(ends["ok"], 100, ends)
        self.assertGreater(ends["stuck"], 2, ends)

    def test_graphs_that_come_out_of_form(self):
        ends = {}
        for seed in range(80):
            value = out_of_form(random_form(seed, seed % 2 == 0))
            end = self.same(value, any_places(value, seed), random_launch(seed), 60)
            ends[end] = ends.get(end, 0) + 1
        self.assertGreater(ends["ok"], 30, ends)


class CellsTest(EmittingCase):
    def test_the_number_of_local_cells(self):
        value = graph(((("word", 0, 1), ("word", 1, 1), ("store", TO_A, 0, 1)), EXIT), registers=3)
        for places, many in (
            ((0, 1, 0), 0), ((4, 3, 2), 0), ((-1, 1, 0), 1), ((-64, 1, 0), 64), ((-3, -7, 0), 7), ((0, -2, 1), 2),
            # Also the place of a register that does not occur is one.
            ((0, 1, -9), 9), ((-1, -2, -64), 64),
        ):
            self.assertEqual(self.code_of(value, places)[2], many)

    def test_no_registers(self):
        self.assertEqual(emitted(graph(NODE, registers=0), ()), (PARAMS, SHARED, 0, (EXIT,)))
        self.assertEqual(emitted(graph(NODE, registers=2), (-5, 3)), (PARAMS, SHARED, 5, (EXIT,)))

    def bad(self, value, places):
        with self.assertRaises(BadGraph) as caught:
            emitted(value, places)
        self.assertIs(type(caught.exception), BadGraph)

    def test_places_that_are_not_right(self):
        value = graph(((("word", 0, 1), ("word", 1, 1), ("store", TO_A, 0, 1)), EXIT), registers=3)
        self.code_of(value, (4, -64, 4))
        self.bad(value, (5, 1, 0))
        self.bad(value, (0, 5, 0))
        self.bad(value, (0, 1, 5))
        self.bad(value, (-65, 1, 0))
        self.bad(value, (0, 1, -65))
        self.bad(value, (0, 0, 1))
        self.bad(value, (-1, -1, 0))
        self.bad(value, (7, 6, 5))

    def test_exactly_those_that_are_not_right(self):
        found = {True: 0, False: 0}
        for seed in range(300):
            dice = random.Random(seed)
            value = random_graph(seed, True)
            for most in (2, 5, 6):
                places = tuple(dice.randrange(-most - 1, 6 if most == 6 else 5) for _ in range(value[2]))
                told = is_right(value, places, 5)
                found[told] += 1
                if told:
                    self.code_of(value, places)
                else:
                    self.bad(value, places)
        self.assertGreater(min(found.values()), 100)

    def test_not_right_comes_before_too_large(self):
        value = self.large(900)
        self.bad(value, (0, 0, 0))
        with self.assertRaises(TooLarge):
            emitted(value, (-1, -2, -3))

    def large(self, many):
        """Return a graph with so many instructions, each of which may need four."""
        rows = (("binary", "add", 0, 1, 2),) * (many - 2) + (("binary", "add", 1, 0, 2), ("store", TO_A, 1, 2))
        return graph((rows, EXIT), registers=3)

    def test_at_most_400_nodes_and_instructions(self):
        value = self.large(399)
        self.assertEqual(len(self.code_of(value, (-1, -2, -3))[3]), 398 * 4 + 4)

    def test_400_nodes(self):
        nodes = [((), ("branch", 0, 1 + node * 7 % 399, node + 1)) for node in range(399)] + [NODE]
        turned = [((), ("branch", 0, node + 1, 1 + node * 7 % 399)) for node in range(399)] + [NODE]
        for row in (nodes, turned):
            value = graph(*row, registers=1)
            self.assertIsNone(check_code(emitted(value, (-1,))))

    def test_random_graphs_of_400_parts(self):
        for seed in range(12):
            value = random_graph(seed, True, 60, 60)
            rows = value[3][0][0] + tuple(all_rows(value)) * 40
            rows = rows[:400 - len(value[3]) - len(all_rows(value))]
            value = value[:3] + (((rows + value[3][0][0], value[3][0][1]),) + value[3][1:],)
            check_graph(value)
            self.assertLessEqual(len(value[3]) + len(all_rows(value)), 400)
            self.assertIsNone(check_code(emitted(value, cells_alone(value))))

    def test_2000_and_2001_instructions(self):
        rows = (("binary", "add", 0, 1, 2),) * 499
        for more, whole in (((), 1997), ((("word", 0, 1), ("barrier", 1)), 2000)):
            value = graph((rows + more, EXIT), registers=3)
            self.assertEqual(len(self.code_of(value, (-1, -2, -3))[3]), whole)
        with self.assertRaises(TooLarge) as caught:
            emitted(graph((rows + (("binary", "add", 0, 1, 2),), EXIT), registers=3), (-1, -2, -3))
        self.assertIs(type(caught.exception), TooLarge)


class CompiledTest(unittest.TestCase):
    def test_the_functions_one_after_the_other(self):
        kernels = [random_kernel(seed, seed % 3 == 0) for seed in range(60)] + [EVERYTHING, (PARAMS, SHARED, ())]
        for kernel in kernels:
            value = out_of_form(improved(in_form(lowered(kernel))))
            for k in range(1, 6):
                result = compiled(kernel, k)
                self.assertEqual(result, emitted(value, assigned(value, k)))
                self.assertIsNone(check_code(result))
                self.assertEqual(result[:2], kernel[:2])

    def test_runs(self):
        ends = {}
        for seed in range(250):
            kernel, start = random_kernel(seed, seed % 3 == 0), random_launch(seed)
            end, memory, races, _ = run(kernel, start, [])
            if races or end == "fuel":
                continue
            ends[end] = ends.get(end, 0) + 1
            for k in (1, 2, 5):
                for turns in MANY_TURNS:
                    told = run_code(compiled(kernel, k), start, turns, 20000)
                    self.assertEqual((told[0], told[2]), (end, []), seed)
                    if end == "ok":
                        self.assertEqual(told[1], memory, seed)
        self.assertGreater(ends["ok"], 100)
        self.assertGreater(ends["stuck"], 1)

    def test_no_kernel_of_size_20_is_too_large(self):
        names = tuple((name, "int") for name in "abcdef")
        sets = tuple(("set", name, ("word", 1)) for name in "abcdef")
        test = ("name", "a")
        picks = test
        for _ in range(6):
            picks = ("pick", test, ("name", "b"), picks)
        whiles, ifs = sets[:3], sets[:3]
        for _ in range(7):
            whiles, ifs = (("while", test, whiles),), (("if", test, ifs, ()),)
        inner = ("if", test, (("break",),), (("continue",),))
        for body in (
            (("set", "a", picks),), whiles, ifs, (("while", test, sets[:5] + (inner, ("barrier",))),),
            sets[:3] + (("while", test, sets[:3] + (inner,)),), tuple(("while", test, (row,)) for row in sets[:5]),
            tuple(("while", test, (("set", name, ("name", "f")),)) for name in "abcde"),
            tuple(("if", test, (row,), ()) for row in sets[:5]), (("while", test, ifs[0][2][0][2]),),
            tuple(("if", test, (("return",),), ()) for _ in range(6)),
        ):
            kernel = (names, (), body)
            check_kernel(kernel)
            self.assertLessEqual(size(kernel), 20)
            for k in range(1, 6):
                self.assertIsNone(check_code(compiled(kernel, k)))

    def test_random_kernels_of_size_20(self):
        many = 0
        for seed in range(600):
            kernel = random_kernel(seed, True, 6)
            if 10 <= size(kernel) <= 20:
                many += 1
                for k in (1, 3):
                    self.assertIsNone(check_code(compiled(kernel, k)))
        self.assertGreater(many, 50)

    def test_large_kernels(self):
        found = {"code": 0, "too large": 0}
        for seed in range(60):
            kernel = random_kernel(seed, True, 40)
            if len(statements(kernel)) <= 100:
                check_kernel(kernel)
                for k in (1, 5):
                    try:
                        self.assertIsNone(check_code(compiled(kernel, k)))
                        found["code"] += 1
                    except TooLarge:
                        found["too large"] += 1
        self.assertGreater(found["code"], 20, found)

    def test_a_kernel_that_is_too_large(self):
        deep = ("load", "a", ("name", "n"))
        for _ in range(4):
            deep = ("binary", "add", deep, deep)
        kernel = (PARAMS, SHARED, (("put", "a", ("word", 0), deep),) * 100)
        check_kernel(kernel)
        with self.assertRaises(TooLarge) as caught:
            compiled(kernel, 5)
        self.assertIs(type(caught.exception), TooLarge)

    def test_arguments_stay_as_they_are(self):
        for seed in range(40):
            kernel, value = random_kernel(seed, True), random_graph(seed, True)
            places = assigned(value, 2)
            before = copy.deepcopy((kernel, value, places))
            first = emitted(value, places)
            self.assertEqual(compiled(kernel, 2), compiled(kernel, 2))
            self.assertEqual((kernel, value, places, first), before + (emitted(value, places),))


if __name__ == "__main__":
    unittest.main()
