"""Points 1, 9, 12, 25, 26 and 38: what holds over the whole program, from kernels to machines."""

import copy
import random
import unittest

from drawloom.codes import check_code, run_code
from drawloom.emitting import compiled, emitted
from drawloom.forming import in_form, out_of_form
from drawloom.graphs import run_graph
from drawloom.improving import improved
from drawloom.kernels import check_kernel, check_launch, statements
from drawloom.lowering import lowered
from drawloom.machines import Machine, run_machine
from drawloom.meaning import World, is_free, run
from drawloom.places import assigned
from tests.randoms import random_kernel, random_launch, random_shape, random_turns, size
from tests.reference import most_steps
from tests.short import (
    BARRIER, BID, BREAK, CONTINUE, DIM, GRID, PARAMS, RETURN, SHARED, TID, assign, atomic, bi, collect, kernel, launch, let,
    load, loop, only, pick, put, un, when,
)

AT = bi("add", bi("mul", BID, DIM), TID)
LOWER = assign("n", bi("sub", "n", 1))

# Kernels that are free with the launches below them.
FREE = {
    "each statement": kernel(
        let("x", bi("add", AT, 1)), assign("x", bi("mul", "x", "x")), put("s", TID, "x"), BARRIER,
        let("y", load("s", bi("sub", bi("sub", DIM, 1), TID))), atomic("add", "b", 0, "y"), atomic("max", "b", 1, "x"),
        collect("all1", "add", un("neg", "y")), collect("least", "min", pick(bi("and", TID, 1), "y", "x")),
        when(bi("lt", TID, 2), [let("z", "all1"), put("a", AT, bi("xor", "z", "least"))], [put("a", AT, GRID), RETURN]),
        loop(bi("lt", 0, "n"), LOWER, when(bi("eq", "n", 3), [CONTINUE]), when(bi("eq", "n", TID), [BREAK]),
             put("a", AT, bi("add", load("a", AT), "n"))),
    ),
    "a sum in a tree": kernel(
        put("s", TID, bi("mul", AT, 3)), BARRIER, let("step", 2),
        loop(bi("lt", 0, "step"),
             when(bi("and", bi("lt", TID, "step"), bi("lt", bi("add", TID, "step"), DIM)), [
                 put("s", TID, bi("add", load("s", TID), load("s", bi("add", TID, "step"))))]),
             BARRIER, assign("step", bi("div", "step", 2))),
        only(0, put("a", BID, load("s", 0))),
    ),
    "loops that threads leave one after the other": kernel(
        let("many", AT), let("sum1", 0),
        loop(bi("lt", 0, "many"), let("inner", "many"),
             loop("inner", assign("sum1", bi("add", "sum1", "inner")), assign("inner", bi("sub", "inner", 1)),
                  when(bi("eq", "inner", 2), [BREAK])),
             assign("many", bi("sub", "many", 1)), when(bi("eq", "many", 3), [CONTINUE])),
        put("a", AT, "sum1"),
    ),
    "meetings in branches and loops": kernel(
        let("round1", 0),
        when(bi("eq", BID, 0), [
            loop(bi("lt", "round1", 3), only(0, put("t", bi("and", "round1", 1), bi("mul", "round1", 100))),
                 collect("top", "max", bi("mul", TID, "round1")),
                 assign("n", bi("add", "n", bi("add", "top", load("t", bi("and", "round1", 1))))), BARRIER,
                 assign("round1", bi("add", "round1", 1))),
        ], [collect("other", "xor", AT), assign("n", "other")]),
        put("a", AT, "n"),
    ),
    "stores to one cell again and again": kernel(
        put("a", AT, 1), put("a", AT, bi("add", load("a", AT), 1)), put("s", TID, load("a", AT)), put("a", AT, 7),
        put("a", AT, bi("add", load("a", AT), load("s", TID))), atomic("add", "a", AT, 5), put("b", -1, 3), put("b", 99, 3),
    ),
    "nothing": kernel(),
}
STARTS = (
    launch(1, 1), launch(2, 4, a=(0,) * 24, n=6), launch(4, 3, a=(4,) * 24), launch(1, 4, n=-2), launch(3, 2, a=(1,) * 6, n=9),
)
STUCK = {
    "a barrier that some pass by": kernel(when(TID, [BARRIER])),
    "two barriers": kernel(when(TID, [BARRIER], [collect("x", "add", 1)])),
    "a return in front of a collect": kernel(put("a", AT, 1), only(1, RETURN), collect("x", "add", 1), put("b", AT, "x")),
    "a loop that one leaves early": kernel(loop(bi("lt", 0, "n"), LOWER, BARRIER, only(1, when(bi("eq", "n", 2), [BREAK])))),
}


class WholeCase(unittest.TestCase):
    def machines(self, start, seed):
        """Yield shapes and turns."""
        dice = random.Random(seed)
        for number in range(2):
            shape = random_shape(dice.randrange(10 ** 6), start[0] if seed % 2 == 0 else 1)
            yield shape, (random_turns(dice.randrange(100), dice.randrange(300)) if number > 0 else [])

    def check_free(self, program, start, ks=range(1, 6), seed=0):
        """Check the compiled code of a kernel with a launch that is free, on several machines."""
        end, memory, races, many = run(program, start, [])
        self.assertEqual((end, races), ("ok", []))
        for turns in (random_turns(seed, 200), [-1] * 300):
            self.assertEqual(run(program, start, turns), (end, memory, [], many))
        for k in ks:
            value = compiled(program, k)
            for shape, turns in self.machines(start, seed + k):
                self.assertEqual(run_machine(value, start, shape, turns), ("ok", memory, []), (program, start, k, shape))


class FreeTest(WholeCase):
    def test_kernels_with_all_statements(self):
        for name, program in FREE.items():
            check_kernel(program)
            for start in STARTS:
                check_launch(program, start)
                self.assertTrue(is_free(program, start), name)
                self.check_free(program, start, seed=len(name))

    def test_all_shapes(self):
        program, start = FREE["each statement"], launch(2, 4, a=(0,) * 24, n=6)
        memory = run(program, start, [])[1]
        value = compiled(program, 3)
        for width in range(1, 9):
            for free in (False, True):
                for cores, slots, room in ((1, 1, 0), (4, 4, 4), (1, 2, 1), (2, 1, 2), (3, 2, 3)):
                    shape = (width, free, cores, slots, room)
                    for turns in ([], [-1, -2, -3, 7, 4] * 30, [1] * 200):
                        self.assertEqual(run_machine(value, start, shape, turns), ("ok", memory, []), shape)

    def test_random_kernels(self):
        many = 0
        for seed in range(160):
            program, start = random_kernel(seed, seed % 4 == 0), random_launch(seed)
            if is_free(program, start):
                many += 1
                self.check_free(program, start, (1 + seed % 5, 5 - seed % 4), seed)
        self.assertGreater(many, 60)

    def test_graphs_of_each_step_of_the_compiler(self):
        many = 0
        for seed in range(120):
            program, start = random_kernel(seed), random_launch(seed)
            if not is_free(program, start):
                continue
            many += 1
            memory = run(program, start, [])[1]
            first = lowered(program)
            most = 6 * size(program) * (most_steps(program, start) + 1) + 10
            formed = in_form(first)
            last = out_of_form(improved(formed))
            for graph, steps in ((first, most), (formed, 10 ** 6), (improved(formed), 10 ** 6), (last, 10 ** 6)):
                result = run_graph(graph, start, random_turns(seed, 200), steps)
                self.assertEqual(result[:3], ("ok", memory, []))
            for k in (1, 4):
                value = emitted(last, assigned(last, k))
                self.assertEqual(value, compiled(program, k))
                self.assertEqual(run_code(value, start, random_turns(seed, 300), 10 ** 6)[:3], ("ok", memory, []))
        self.assertGreater(many, 60)


class StuckTest(WholeCase):
    def check_stuck(self, program, start, seed, ks=range(1, 6)):
        for k in ks:
            value = compiled(program, k)
            for number in range(3):
                shape = random_shape(seed * 10 + number, start[0])
                self.assertGreaterEqual(shape[2] * shape[3], start[0])
                end, _, races = run_machine(value, start, shape, random_turns(seed + k, 60 * number))
                self.assertEqual((end, races), ("stuck", []), (program, start, shape))

    def test_launches_without_races(self):
        for name, program in STUCK.items():
            for start in (launch(1, 2), launch(3, 4, a=(0,) * 24, b=(0,) * 24), launch(2, 3, n=4)):
                end, _, races, _ = run(program, start, [])
                self.assertEqual((end, races), ("stuck", []), name)
                self.check_stuck(program, start, len(name))

    def test_random_kernels(self):
        many = 0
        for seed in range(200):
            dice = random.Random(seed)
            params, shared, body = random_kernel(seed, seed % 3 > 0)
            part = dice.choice((
                (only(0, RETURN), BARRIER), (when(TID, [BARRIER], [collect("stuck", "or", 3)]),), (only(1, BARRIER),),
            ))
            at = dice.randrange(len(body) + 1)
            program, start = (params, shared, body[:at] + part + body[at:]), random_launch(seed)
            check_kernel(program)
            end, _, races, _ = run(program, start, [])
            if end == "stuck" and not races:
                many += 1
                self.check_stuck(program, start, seed, (1, 4))
        self.assertGreater(many, 40)


class RacesTest(WholeCase):
    def test_a_race_that_is_told_is_one_of_the_run(self):
        many = 0
        for seed in range(120):
            program, start = random_kernel(seed, True), random_launch(seed)
            if run(program, start, [])[0] == "fuel":
                continue
            value, shape = compiled(program, 2), random_shape(seed)
            one, found, dice = Machine(value, start, shape), [], random.Random(seed)
            for _ in range(3000):
                actions = one.actions()
                if not actions:
                    break
                one.act(dice.randrange(len(actions)) if dice.random() < 0.3 else 0)
                found += one.accesses()
            rows = {access: (block, phase) for access, block, phase in found}
            cells = []
            for first, second in one.races():
                many += 1
                cells.append(first[:2])
                self.assertEqual(first[:2], second[:2])
                self.assertNotEqual(first[2], second[2])
                self.assertFalse(first[3] == second[3] != "store")
                self.assertFalse(rows[first][0] == rows[second][0] and rows[first][1] != rows[second][1])
                self.assertLessEqual(first[4], second[4])
            self.assertEqual(len(cells), len(set(cells)))
        self.assertGreater(many, 20)


class OwnersTest(WholeCase):
    def test_no_call_depends_on_earlier_ones(self):
        for seed in range(40):
            program, start = random_kernel(seed), random_launch(seed)
            kept = copy.deepcopy((program, start))
            if not is_free(program, start):
                continue
            shape = random_shape(seed)
            results = []
            for _ in range(2):
                value = compiled(program, 3)
                self.assertIsNone(check_code(value))
                world = World(program, start)
                while world.end() == "":
                    world.step(world.ready()[-1])
                results.append((value, run_machine(value, start, shape, [3, 1, 4]), world.races(), statements(program)))
            self.assertEqual(results[0], results[1])
            for first, second in zip(results[0], results[1]):
                if isinstance(first, list):
                    self.assertIsNot(first, second)
            results[0][1][2].append(0)
            self.assertEqual(results[1][1][2], [])
            self.assertEqual((program, start), kept)

    def test_parameters_that_are_one_buffer(self):
        program = (PARAMS, SHARED, (put("a", AT, 3), put("b", AT, bi("add", load("a", AT), 1)), put("a", AT, load("b", AT))))
        start = (2, 2, (1, 5, 1), ((9,), (0,) * 6))
        self.check_free(program, start)
        self.assertEqual(run(program, start, [])[1], ((9,), (4, 4, 4, 4, 0, 0)))


if __name__ == "__main__":
    unittest.main()
