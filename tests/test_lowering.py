"""Point 12: flow graphs of kernels."""

import copy
import random
import unittest

from drawloom.errors import BadGraph, TooLarge
from drawloom.graphs import check_graph, run_graph
from drawloom.kernels import check_kernel
from drawloom.lowering import lowered
from drawloom.meaning import is_free, run
from drawloom.words import BINARY, FOLDING, UNARY
from tests.randoms import random_kernel, random_launch, random_turns, size
from tests.reference import most_steps
from tests.samples import EVERYTHING, GREATEST, LEAST, deep_expressions, in_then, in_while, nested
from tests.short import (
    BARRIER, BID, BREAK, CONTINUE, DIM, GRID, RETURN, TID, assign, atomic, bi, collect, kernel, launch, let, load, loop,
    only, pick, put, un, when,
)

AT = bi("add", bi("mul", BID, DIM), TID)
LOWER = assign("n", bi("sub", "n", 1))
STARTS = (launch(), launch(2, 3, a=(5, 6, 7, 0, -1, 2, 9, 8)), launch(1, 4, n=0), launch(3, 1, n=-1))


def instructions(graph):
    return [row for node in graph[3] for row in node[0]]


def bound(program, start):
    """Return how many steps a thread of the flow graph may do."""
    return 6 * size(program) * (most_steps(program, start) + 1) + 10


class LoweringCase(unittest.TestCase):
    def graph_of(self, program):
        check_kernel(program)
        graph = lowered(program)
        self.assertIsNone(check_graph(graph))
        self.assertEqual(graph[:2], program[:2])
        self.assertNotIn("phi", [row[0] for row in instructions(graph)])
        return graph

    def same(self, program, start):
        """Check the flow graph of a kernel by runs; return the end of the launch."""
        graph = self.graph_of(program)
        end, memory, races, _ = run(program, start, [])
        if races or end == "fuel":
            return "no matter"
        most = bound(program, start)
        for turns in ([], [-1] * 2000, random_turns(len(program[2]), 1500)):
            result = run_graph(graph, start, turns, most)
            self.assertEqual((result[0], result[2]), (end, []))
            if end == "ok":
                self.assertEqual(result[1], memory)
        return end

    def free(self, *body, starts=STARTS):
        """Check the flow graph of a kernel that is free with each of these launches."""
        for start in starts:
            self.assertEqual(self.same(kernel(*body), start), "ok", (body, start))


class ExpressionsTest(LoweringCase):
    def stored(self, expression):
        self.free(let("x", 11), let("y", bi("add", TID, -4)), put("b", AT, expression))
        self.free(let("x", 11), let("y", TID), put("b", AT, 3), let("z", expression), put("b", AT, "z"))

    def test_words_names_and_specials(self):
        for expression in (0, 7, -1, LEAST, GREATEST, "x", "y", "n", TID, BID, DIM, GRID):
            self.stored(expression)

    def test_operators(self):
        for op in UNARY:
            self.stored(un(op, "y"))
        for op in BINARY:
            self.stored(bi(op, "x", "y"))
            self.stored(bi(op, "y", bi("sub", "n", "y")))

    def test_pick(self):
        for condition in (0, 1, -1, "y", LEAST, bi("lt", "y", 0)):
            self.stored(pick(condition, "x", "y"))
            self.stored(pick(condition, "y", pick("y", LEAST, GREATEST)))

    def test_loads(self):
        for cell in (0, 3, -1, 8, TID, "y", load("a", 4)):
            self.stored(load("a", cell))
        self.stored(load("s", TID))

    def test_deep_ones(self):
        for expression in deep_expressions(10):
            self.stored(expression)

    def test_variables_that_are_set_by_themselves(self):
        for expression in (
            bi("sub", 1, "x"), bi("add", "x", "x"), un("neg", "x"), load("a", "x"), pick("x", "x", 3), pick(0, 4, "x"),
            pick("x", 3, "x"), "x", bi("sub", bi("add", "x", 1), bi("mul", "x", 2)),
        ):
            self.free(let("x", TID), assign("x", expression), put("b", AT, "x"))
            self.free(assign("n", TID), loop(bi("lt", "n", 6), let("x", "n"), assign("n", bi("add", "n", 2)),
                                             assign("x", expression), put("b", AT, "x")))

    def test_a_copy_keeps_its_word(self):
        self.free(let("x", 1), let("y", "x"), assign("x", 2), put("b", AT, bi("sub", bi("mul", "x", 10), "y")))
        self.free(let("y", "n"), assign("n", 2), put("b", AT, "y"))

    def test_names_that_are_declared_again(self):
        self.free(when(TID, [let("x", 1), put("b", AT, "x")], [let("x", 2), put("b", AT, "x")]), let("x", "n"),
                  put("a", AT, "x"))

    def test_the_loads_of_a_pick_are_accesses(self):
        body = (only(0, put("a", 0, 1)), only(1, let("x", pick(1, 5, load("a", 0)))))
        graph = self.graph_of(kernel(*body))
        self.assertEqual(len(run_graph(graph, launch(1, 2), [], 100)[2]), 1)

    def test_index_first(self):
        # The races of a step of thread 1 are told in the order of its accesses.
        body = (when(bi("eq", TID, 0), [put("a", at, 0) for at in range(4)], [
            put("a", bi("add", load("a", 3), 2), bi("sub", load("a", 1), load("a", 0))),
        ]),)
        told = run_graph(self.graph_of(kernel(*body)), launch(1, 2), [], 100)[2]
        self.assertEqual([other[1::2] for _, other in told], [(3, "load"), (1, "load"), (0, "load"), (2, "store")])


class StatementsTest(LoweringCase):
    def test_no_statements(self):
        self.free()
        self.assertEqual(lowered(((), (), ())), ((), (), 0, (((), ("exit",)),)))

    def test_each_statement(self):
        self.free(let("x", 1))
        self.free(assign("n", 1))
        self.free(put("s", TID, TID), put("a", AT, load("s", TID)))
        for op in FOLDING:
            self.free(atomic(op, "b", 2, TID))
        self.free(RETURN)
        self.free(RETURN, put("a", 0, 1))
        self.free(BARRIER)
        self.free(collect("x", "add", TID), put("b", AT, "x"))

    def test_if(self):
        for condition in (0, 1, TID, bi("lt", TID, 1), "n", load("a", TID)):
            one, other = put("b", AT, 3), put("b", AT, bi("add", load("b", AT), 4))
            for bodies in (([one], []), ([], [one]), ([one], [other]), ([], []), ([one, other], [other])):
                self.free(when(condition, *bodies), other)
                self.free(when(condition, *bodies))
                self.free(when(condition, [when("n", *bodies), other], [when(TID, *bodies)]))

    def test_while(self):
        for body in ([], [put("b", AT, "n")], [when("n", [put("b", AT, "n")])], [when("n", [], [put("b", AT, 1)])]):
            self.free(loop(bi("lt", 0, "n"), LOWER, *body), put("a", AT, "n"))
            self.free(loop(bi("lt", 0, "n"), LOWER, *body))
            self.free(loop(bi("lt", 0, "n"), *body, LOWER), put("a", AT, "n"))
        self.free(loop(0), put("a", AT, 1))
        self.free(loop(0, loop(1)), loop(0))

    def test_loops_in_loops(self):
        inner = (let("y", "n"), loop(bi("lt", 0, "y"), assign("y", bi("sub", "y", 1)), atomic("add", "b", AT, "y")))
        self.free(loop(bi("lt", 0, "n"), LOWER, *inner), put("a", AT, "n"))
        self.free(loop(bi("lt", 0, "n"), *inner, LOWER))

    def test_break_continue_and_return(self):
        for jump in (BREAK, CONTINUE, RETURN):
            for condition in (1, bi("eq", "n", 2), bi("lt", "n", TID)):
                count = atomic("add", "b", AT, 1)
                behind = put("a", AT, "n")
                self.free(loop(bi("lt", 0, "n"), LOWER, when(condition, [jump]), count), behind)
                self.free(loop(bi("lt", 0, "n"), LOWER, when(condition, [jump], [count])), behind)
                self.free(loop(bi("lt", 0, "n"), LOWER, when(condition, [], [jump])), behind)
                self.free(loop(bi("lt", 0, "n"), LOWER, when(condition, [count, jump], [jump])), behind)
                self.free(loop(bi("lt", 0, "n"), LOWER, loop(1, when(condition, [count, BREAK]), BREAK), jump), behind)
                self.free(loop(bi("lt", 0, "n"), LOWER, loop(0, jump), when(condition, [when(1, [jump])])))

    def test_statements_that_are_never_reached(self):
        dead = (put("a", 0, 99), BARRIER, loop(1, put("a", 0, 98)), let("q", 5), put("a", 0, "q"), RETURN)
        for jump in (BREAK, CONTINUE, RETURN):
            self.free(loop(bi("lt", 0, "n"), LOWER, when(TID, [jump, *dead]), jump, *dead), put("b", AT, "n"))
        self.free(put("b", AT, 1), RETURN, *dead)
        self.free(loop(1, BREAK, *dead), put("b", AT, 1))
        self.free(when(TID, [RETURN], [RETURN]), *dead)

    def test_jumps_one_behind_the_other(self):
        self.free(loop(1, loop(1, loop(1, BREAK), BREAK), BREAK), put("b", AT, 1))
        self.free(loop(bi("lt", 0, "n"), LOWER, loop(1, BREAK), CONTINUE))
        self.free(loop(1, loop(1, BREAK), RETURN), put("b", AT, 1))

    def test_a_loop_is_the_first_statement(self):
        self.free(loop(bi("lt", load("b", AT), 3), put("b", AT, bi("add", load("b", AT), 1))))

    def test_a_loop_without_end(self):
        for body in ((loop(1),), (loop(1, put("a", TID, 1)),), (loop(1, loop(1, CONTINUE)),), (loop(1, CONTINUE),)):
            graph = self.graph_of(kernel(*body))
            self.assertEqual(run_graph(graph, launch(1, 2), [], 500)[0], "fuel")

    def test_parameters(self):
        params = (("n", "int"), ("a", "buffer"), ("m", "int"), ("b", "buffer"), ("k", "int"))
        body = (assign("m", bi("sub", "m", "n")), put("a", 0, "m"), put("b", 0, bi("add", "k", "m")))
        program = (params, (("s", 1),), body)
        self.assertEqual(self.same(program, (1, 1, (3, 1, 10, 0, 100), ((0,), (0,)))), "ok")
        self.assertEqual(self.same(program, (1, 1, (3, 0, 10, 0, 100), ((0,), (0,)))), "ok")
        ints = (tuple((f"p{k}", "int") for k in range(6)), (), ())
        self.assertEqual(self.same(ints, (1, 1, (1, 2, 3, 4, 5, 6), ())), "ok")

    def test_everything(self):
        graph = self.graph_of(EVERYTHING)
        words = {row[0] for row in instructions(graph)}
        self.assertTrue(words >= {"load", "store", "atomic", "collect", "barrier", "param", "special", "word"})


class NumbersTest(LoweringCase):
    def test_a_barrier_or_collect_stands_for_the_statement_with_its_number(self):
        body = (
            let("x", 1), BARRIER, when(TID, [collect("y", "add", 1), BARRIER], [BARRIER]), collect("z", "min", "x"),
            loop(0, BARRIER, collect("w", "xor", 2)),
        )
        rows = [row for row in instructions(lowered(kernel(*body))) if row[0] in ("barrier", "collect")]
        told = sorted((row[-1], row[0], row[1] if row[0] == "collect" else "") for row in rows)
        self.assertEqual(told, [
            (1, "barrier", ""), (3, "collect", "add"), (4, "barrier", ""), (5, "barrier", ""), (6, "collect", "min"),
            (8, "barrier", ""), (9, "collect", "xor"),
        ])

    def test_the_greatest_number(self):
        graph = self.graph_of(kernel(*[BARRIER] * 100))
        self.assertEqual([row[1] for row in instructions(graph)], list(range(100)))
        self.assertEqual(run_graph(graph, launch(2, 3), [1, 2], 101)[::3], ("ok", 606))


class StuckTest(LoweringCase):
    def stuck(self, *body, starts=(launch(1, 2), launch(2, 3))):
        for start in starts:
            self.assertEqual(self.same(kernel(*body), start), "stuck")

    def test_launches_that_are_stuck(self):
        self.stuck(when(TID, [BARRIER], [BARRIER]))
        self.stuck(when(TID, [BARRIER]), BARRIER)
        self.stuck(only(1, RETURN), BARRIER)
        self.stuck(when(TID, [collect("x", "add", 1)], [collect("x", "add", 1)]))
        self.stuck(BARRIER, put("a", AT, 1), when(TID, [BARRIER, BARRIER], [BARRIER]), put("a", AT, 2))
        self.stuck(loop(bi("lt", "n", bi("add", 6, TID)), assign("n", bi("add", "n", 1)), BARRIER))


class SizesTest(LoweringCase):
    def test_the_size(self):
        self.assertEqual(size(kernel(put("a", 0, bi("add", 1, load("a", TID))), RETURN)), 7)

    def test_no_error_up_to_the_size_40(self):
        for program in self.programs_of_size_40():
            self.assertIn(size(program), (38, 39, 40))
            self.graph_of(program)

    def programs_of_size_40(self):
        yield kernel(*[BARRIER] * 40)
        yield kernel(*[when(1)] * 20)
        yield kernel(*[when(1, [loop(0)])] * 10)
        yield kernel(*[loop(1, CONTINUE)] * 13)
        yield kernel(*[loop(1, BREAK, RETURN)] * 10)
        yield kernel(*[put("a", 0, 0)] * 13)
        yield kernel(*[atomic("add", "a", 0, pick(0, 0, 0))] * 6, put("a", 0, 0))
        deep = 0
        for _ in range(9):
            deep = pick(deep, 0, 0)
        yield kernel(put("a", deep, 1), when(0, [let("x", 1)]), put("a", 0, 0), RETURN)
        yield kernel(*nested(10, lambda body: ("if", TID, body, body[:0]), (RETURN,) * 21))
        yield kernel(*nested(8, in_while, nested(2, in_then, (loop("n"), loop("n"))) * 4))
        for seed in range(300):
            dice = random.Random(seed)
            program = random_kernel(seed, seed % 2 == 0, 12)
            while size(program) > 40:
                program = program[:2] + (program[2][:-1],)
            body = program[2] + tuple(
                dice.choice((when(1), loop(1), RETURN, BARRIER)) for _ in range(40 - size(program)))
            while size(program[:2] + (body,)) > 40:
                body = body[:-1]
            yield program[:2] + (body,)

    def test_large_kernels(self):
        deep = 0
        for _ in range(7):
            deep = bi("add", deep, load("a", 1))
        wide = pick(deep, deep, deep)
        large = (
            kernel(*[put("a", deep, deep)] * 100), kernel(*[put("a", wide, 1)] * 40), kernel(*[when(1, [loop(1)])] * 50),
            kernel(*[loop(1, when(1, [BREAK]))] * 33), kernel(*[let(f"x{k}", pick(k, 1, 2)) for k in range(100)]),
            kernel(*[when(deep, [put("a", deep, 1)], [BARRIER])] * 33),
        )
        raised = 0
        for program in large:
            check_kernel(program)
            try:
                self.graph_of(program)
            except TooLarge as error:
                raised += 1
                self.assertIs(type(error), TooLarge)
        self.assertGreater(raised, 1)
        self.assertLess(raised, len(large))

    def test_just_at_the_bound(self):
        # A put has 3 instructions and 2 more for each word that is added; there is one node.
        body = [put("a", 1, chained(9))] * 47 + [put("a", 1, 1)] * 4
        graph = self.graph_of(kernel(*body))
        self.assertEqual((len(graph[3]), len(instructions(graph))), (1, 999))
        with self.assertRaises(TooLarge):
            lowered(kernel(*body, let("x", TID)))


def chained(many):
    """Return a word to which so many words are added."""
    found = 1
    for _ in range(many):
        found = bi("add", found, 1)
    return found


class RandomTest(LoweringCase):
    def test_random_kernels(self):
        ends = {}
        for seed in range(500):
            program, start = random_kernel(seed, seed % 3 == 0, 10), random_launch(seed)
            end = self.same(program, start)
            self.assertTrue(end == "ok" or not is_free(program, start))
            ends[end] = ends.get(end, 0) + 1
        self.assertGreater(ends["ok"], 200)
        self.assertGreater(ends["stuck"], 1)


class ArgumentTest(LoweringCase):
    def test_the_kernel_stays_and_results_are_equal(self):
        for program in (EVERYTHING, kernel(), random_kernel(5)):
            before = copy.deepcopy(program)
            first = lowered(program)
            self.assertEqual(program, before)
            self.assertEqual(lowered(program), first)

    def test_tuples_throughout(self):
        with self.assertRaises(BadGraph):
            check_graph(list(lowered(EVERYTHING)))
        self.graph_of(EVERYTHING)


if __name__ == "__main__":
    unittest.main()
