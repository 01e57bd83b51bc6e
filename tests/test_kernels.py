"""Points 4 and 5: which values are good kernels, and the numbers of statements."""

import copy
import unittest

from drawloom.errors import BadKernel, DrawloomError
from drawloom.kernels import check_kernel, statements
from drawloom.words import BINARY, FOLDING, UNARY
from tests.samples import (
    EVERYTHING, GREATEST, LEAST, ODD, ONE, as_lists, deep_expressions, in_else, in_then, in_while,
    nested, part_at, places, replaced, with_body, with_expression,
)

NO_TUPLES = (None, True, False, 0, 7, -1, "", "a", "abc", [], [(), (), ()])
NO_NAMES = (
    "", "a" * 13, "1", "1a", "A", "aB", "a_b", "_a", "a-b", "a b", " a", "a ", "a.", "\u00e9", "a\u00e9",
    "a\u0661", "\u00b2", "a\n", None, True, 0, 1, ("a",), ["a"], (), [],
)
NAMES = ("a", "z", "a0", "z9", "abcdefghijkl", "a12345678901", "mnopqrstuvwx", "y", "int", "tid")


class KernelCase(unittest.TestCase):
    def good(self, value):
        self.assertIsNone(check_kernel(value), (value,))

    def bad(self, value):
        with self.assertRaises(BadKernel, msg=(value,)) as caught:
            check_kernel(value)
        self.assertIs(type(caught.exception), BadKernel)

    def good_body(self, *body):
        self.good(with_body(*body))

    def bad_body(self, *body):
        self.bad(with_body(*body))

    def good_expression(self, expression):
        self.good(with_expression(expression))

    def bad_expression(self, expression):
        """Check the expression at each place of a statement that has one."""
        self.bad(with_expression(expression))
        self.bad_body(("let", "x", expression))
        self.bad_body(("put", "a", expression, ONE))
        self.bad_body(("put", "a", ONE, expression))
        self.bad_body(("atomic", "add", "a", expression, ONE))
        self.bad_body(("atomic", "add", "a", ONE, expression))
        self.bad_body(("if", expression, (), ()))
        self.bad_body(("while", expression, ()))
        self.bad_body(("collect", "x", "add", expression))
        for part in (
            ("unary", "neg", expression),
            ("binary", "add", expression, ONE), ("binary", "add", ONE, expression),
            ("pick", expression, ONE, ONE), ("pick", ONE, expression, ONE), ("pick", ONE, ONE, expression),
            ("load", "a", expression),
        ):
            self.bad_body(("let", "x", part))


class GoodKernelTest(KernelCase):
    def test_everything(self):
        self.good(EVERYTHING)

    def test_least_kernel(self):
        self.good(((), (), ()))

    def test_each_statement_alone(self):
        self.good_body(("let", "x", ONE))
        self.good_body(("set", "n", ONE))
        self.good_body(("put", "a", ONE, ONE))
        self.good_body(("put", "s", ONE, ONE))
        self.good_body(("if", ONE, (), ()))
        self.good_body(("while", ONE, ()))
        self.good_body(("while", ONE, (("break",),)))
        self.good_body(("while", ONE, (("continue",),)))
        self.good_body(("return",))
        self.good_body(("barrier",))
        self.good_body(("return",), ("barrier",), ("return",))

    def test_each_operator(self):
        for op in BINARY:
            self.good_expression(("binary", op, ONE, ONE))
        for op in UNARY:
            self.good_expression(("unary", op, ONE))
        for op in FOLDING:
            self.good_body(("atomic", op, "s", ONE, ONE), ("collect", "x", op, ONE))

    def test_each_special(self):
        for word in ("tid", "bid", "dim", "grid"):
            self.good_expression(("special", word))

    def test_words_to_the_bounds(self):
        for word in (0, 1, -1, LEAST, GREATEST):
            self.good_expression(("word", word))

    def test_names(self):
        for name in NAMES:
            self.good((((name, "int"),), (), (("set", name, ("name", name)),)))
            self.good((((name, "buffer"),), (), (("put", name, ONE, ("load", name, ONE)),)))
            self.good(((), ((name, 1),), (("put", name, ONE, ("load", name, ONE)),)))
            self.good(((), (), (("let", name, ONE), ("set", name, ("name", name)))))
            self.good(((), (), (("collect", name, "add", ONE), ("set", name, ("name", name)))))


class FormTest(KernelCase):
    def test_no_tuple_of_three(self):
        for value in NO_TUPLES + ((), ((),), ((), ()), ((), (), (), ())):
            self.bad(value)

    def test_parts_that_are_no_tuples(self):
        for value in NO_TUPLES:
            self.bad((value, (), ()))
            self.bad(((), value, ()))
            self.bad(((), (), value))
            self.bad(((value,), (), ()))
            self.bad(((), (value,), ()))
            self.bad(((), (), (value,)))
            self.bad_body(("if", ONE, value, ()))
            self.bad_body(("if", ONE, (), value))
            self.bad_body(("while", ONE, value))
            self.bad_expression(value)

    def test_lists_for_tuples(self):
        for path in places(EVERYTHING):
            part = part_at(EVERYTHING, path)
            if isinstance(part, tuple):
                self.bad(replaced(EVERYTHING, path, list(part)))
                self.bad(replaced(EVERYTHING, path, as_lists(part)))

    def test_a_part_more_or_less(self):
        for path in places(EVERYTHING):
            part = part_at(EVERYTHING, path)
            # Bodies and the rows of the head may have another length.
            if isinstance(part, tuple) and part and isinstance(part[0], str):
                self.bad(replaced(EVERYTHING, path, part + (ONE,)))
                self.bad(replaced(EVERYTHING, path, part + (1,)))
                self.bad(replaced(EVERYTHING, path, part[:-1]))
                self.bad(replaced(EVERYTHING, path, part[:1] + part))
        self.bad(EVERYTHING + ((),))
        self.bad(EVERYTHING[:2])

    def test_words_that_begin_nothing(self):
        for word in ("", "Let", "nothing", "add", "phi", None, 1, True, (), [], ("let",), ["let"]):
            self.bad_body((word, "x", ONE))
            self.bad_body((word,))
            self.bad_expression((word, 1))
            self.bad_expression((word,))

    def test_statements_and_expressions_are_not_mixed(self):
        self.bad_body(ONE)
        self.bad_body(("load", "a", ONE))
        self.bad_expression(("let", "y", ONE))
        self.bad_expression(("barrier",))

    def test_bad_names(self):
        for name in NO_NAMES:
            self.bad((((name, "int"),), (), ()))
            self.bad((((name, "buffer"),), (), ()))
            self.bad(((), ((name, 1),), ()))
            self.bad(((), (), (("let", name, ONE),)))
            self.bad(((), (), (("collect", name, "add", ONE),)))

    def test_bad_names_that_are_used(self):
        for name in NO_NAMES:
            self.bad_body(("set", name, ONE))
            self.bad_body(("put", name, ONE, ONE))
            self.bad_body(("atomic", "add", name, ONE, ONE))
            self.bad_expression(("name", name))
            self.bad_expression(("load", name, ONE))

    def test_sorts_of_parameters(self):
        for sort in ("", "Int", "ints", "word", "in", None, True, 0, ("int",), ["int"], (), []):
            self.bad(((("n", sort),), (), ()))

    def test_sizes(self):
        for size in (1, 2, 15, 16):
            self.good(((), (("s", size),), ()))
        for size in (0, 17, -1, -16, 10 ** 30, True, False, None, "1", (1,), [1]):
            self.bad(((), (("s", size),), ()))

    def test_words_out_of_range(self):
        for word in (GREATEST + 1, LEAST - 1, 2 ** 32, 10 ** 90, -(10 ** 90)):
            self.bad_expression(("word", word))

    def test_words_that_are_no_integers(self):
        for word in (True, False, None, "1", "", (1,), [1], (), []):
            self.bad_expression(("word", word))

    def test_specials_that_are_none(self):
        for word in ("", "tids", "size", "TID", "add", 0, None, True, ("tid",), ["tid"], ()):
            self.bad_expression(("special", word))

    def test_unary_operators_that_are_none(self):
        for op in BINARY + ("", "Neg", "negs", 0, None, True, ("neg",), ["neg"], (), UNARY):
            self.bad_expression(("unary", op, ONE))

    def test_binary_operators_that_are_none(self):
        for op in UNARY + ("", "Add", "adds", "pow", 0, None, True, ("add",), ["add"], (), BINARY):
            self.bad_expression(("binary", op, ONE, ONE))

    def test_operators_that_do_not_fold(self):
        others = tuple(op for op in BINARY if op not in FOLDING)
        self.assertEqual(len(others), 10)
        for op in others + UNARY + ("", "Add", 0, None, True, ("add",), ["add"], (), FOLDING):
            self.bad_body(("atomic", op, "a", ONE, ONE))
            self.bad_body(("collect", "x", op, ONE))

    def test_numbers_of_parameters(self):
        rows = tuple(("n%d" % k, ("int", "buffer")[k % 2]) for k in range(7))
        for many in range(7):
            self.good((rows[:many], (), ()))
        self.bad((rows, (), ()))

    def test_numbers_of_shared_arrays(self):
        rows = tuple(("s%d" % k, k + 1) for k in range(4))
        for many in range(4):
            self.good(((), rows[:many], ()))
        self.bad(((), rows, ()))

    def test_the_same_name_twice(self):
        for first in ("int", "buffer"):
            for second in ("int", "buffer"):
                self.bad(((("a", first), ("b", "int"), ("a", second)), (), ()))
            self.bad(((("a", first),), (("a", 3),), ()))
            self.bad(((("b", "int"), ("a", first)), (("c", 3), ("a", 3)), ()))
        self.bad(((), (("a", 3), ("a", 3)), ()))
        self.bad(((), (("a", 3), ("b", 3), ("a", 4)), ()))


class KnownNamesTest(KernelCase):
    def test_names_that_are_not_known(self):
        self.bad_body(("set", "y", ONE))
        self.bad_body(("put", "b", ONE, ONE))
        self.bad_body(("atomic", "add", "b", ONE, ONE))
        self.bad_expression(("name", "y"))
        self.bad_expression(("load", "b", ONE))

    def test_names_of_the_wrong_sort(self):
        for name in ("a", "s"):
            self.bad_body(("set", name, ONE))
            self.bad_expression(("name", name))
        for name in ("n", "x"):
            self.bad_body(("let", "x", ONE), ("put", name, ONE, ONE))
            self.bad_body(("let", "x", ONE), ("atomic", "add", name, ONE, ONE))
            self.bad_expression(("load", name, ONE))
        self.bad_body(("collect", "x", "add", ONE), ("put", "x", ONE, ONE))

    def test_specials_are_no_names(self):
        self.bad_expression(("name", "tid"))
        self.good_body(("let", "tid", ("special", "tid")), ("set", "tid", ("name", "tid")))

    def test_not_known_yet(self):
        self.bad_body(("set", "x", ONE), ("let", "x", ONE))
        self.bad_body(("set", "n", ("name", "x")), ("let", "x", ONE))
        self.bad_body(("let", "x", ("name", "x")))
        self.bad_body(("let", "x", ("binary", "add", ONE, ("name", "x"))))
        self.bad_body(("collect", "x", "add", ("name", "x")))
        self.bad_body(("if", ("name", "x"), (("let", "x", ONE),), ()))
        self.bad_body(("while", ("name", "x"), (("let", "x", ONE),)))

    def test_not_known_yet_where_a_loop_comes_back(self):
        self.bad_body(("while", ONE, (("set", "x", ONE), ("let", "x", ONE))))

    def test_known_no_more(self):
        for inside in (("let", "x", ONE), ("collect", "x", "add", ONE)):
            for wrap in (in_while, in_then, in_else):
                self.bad_body(wrap((inside,)), ("set", "x", ONE))
                self.bad_body(wrap((inside,)), ("set", "n", ("name", "x")))
                self.bad_body(wrap((wrap((inside,)), ("set", "x", ONE))))
                self.good_body(wrap((inside, ("set", "x", ("name", "x")))))

    def test_one_body_of_an_if_does_not_know_the_other(self):
        self.bad_body(("if", ONE, (("let", "x", ONE),), (("set", "x", ONE),)))
        self.bad_body(("if", ONE, (("set", "x", ONE),), (("let", "x", ONE),)))

    def test_known_in_bodies_inside(self):
        use = ("set", "x", ("binary", "add", ("name", "x"), ("name", "n")))
        for declared in (("let", "x", ONE), ("collect", "x", "add", ONE)):
            for wrap in (in_while, in_then, in_else):
                self.good_body(declared, wrap((wrap((use,)), use)), use)
            self.good_body(declared, ("while", ("name", "x"), ()), ("if", ("name", "x"), (), ()))

    def test_the_same_name_at_one_place(self):
        for declared in (("let", "x", ONE), ("collect", "x", "add", ONE)):
            for again in (("let", "x", ONE), ("collect", "x", "min", ONE)):
                self.bad_body(declared, again)
                self.bad_body(declared, again, ("barrier",))
                for wrap in (in_while, in_then, in_else):
                    self.bad_body(declared, wrap((again,)))
                    self.bad_body(declared, wrap((again, ("barrier",))))
                    self.bad_body(declared, wrap((wrap((again,)),)))
                    self.bad_body(wrap((declared, again)))

    def test_a_variable_with_the_name_of_a_parameter_or_a_shared_array(self):
        for name in ("n", "a", "s"):
            for declared in (("let", name, ONE), ("collect", name, "add", ONE)):
                self.bad_body(declared)
                for wrap in (in_while, in_then, in_else):
                    self.bad_body(wrap((declared,)))

    def test_the_same_name_at_two_places(self):
        for declared in (("let", "x", ONE), ("collect", "x", "add", ONE)):
            for again in (("let", "x", ONE), ("collect", "x", "min", ONE)):
                self.good_body(("if", ONE, (declared,), (again,)))
                for wrap in (in_while, in_then, in_else):
                    self.good_body(wrap((declared,)), again, ("set", "x", ONE))
                    self.good_body(wrap((declared,)), wrap((again,)))
                    self.good_body(wrap((wrap((declared,)), again)), again)

    def test_no_kernel_knows_what_another_one_declared(self):
        self.good_body(("let", "x", ONE))
        self.good_body(("let", "x", ONE))
        self.bad_body(("set", "x", ONE))


class LoopsTest(KernelCase):
    def test_break_and_continue_outside_of_while(self):
        for leave in (("break",), ("continue",)):
            self.bad_body(leave)
            self.bad_body(in_then((leave,)))
            self.bad_body(in_else((leave,)))
            self.bad_body(in_then((in_else((leave,)),)))
            self.bad_body(("while", ONE, ()), leave)
            self.bad_body(in_while((leave,)), leave)
            self.bad_body(in_then((in_while((leave,)), leave)))

    def test_break_and_continue_inside_of_while(self):
        for leave in (("break",), ("continue",)):
            self.good_body(in_while((leave,)))
            self.good_body(in_while((in_then((leave,)), leave)))
            self.good_body(in_while((in_else((leave,)), leave, ("barrier",))))
            self.good_body(in_then((in_while((in_while((leave,)), leave)),)))
            self.good_body(in_while((in_then((in_else((leave,)),)),)))


class BoundsTest(KernelCase):
    def test_bodies_10_and_11_deep(self):
        for wrap in (in_while, in_then, in_else):
            self.good_body(*nested(9, wrap))
            self.good_body(*nested(10, wrap))
            self.good_body(*nested(10, wrap, (("barrier",),)))
            self.bad_body(*nested(11, wrap))
            self.bad_body(*nested(11, wrap, (("barrier",),)))
            self.bad_body(*nested(12, wrap))

    def test_a_while_at_the_deepest_place(self):
        self.bad_body(*nested(10, in_then, (("while", ONE, ()),)))
        self.bad_body(*nested(10, in_while, (("if", ONE, (), ()),)))

    def test_bodies_side_by_side_are_not_deeper(self):
        self.good_body(*[in_then(nested(9, in_else))] * 5)

    def test_expressions_10_and_11_deep(self):
        for depth in (1, 2, 9, 10):
            for expression in deep_expressions(depth):
                self.good_expression(expression)
                self.good_body(("put", "a", expression, expression))
                self.good_body(("atomic", "add", "a", expression, expression))
                self.good_body(("if", expression, (), ()))
                self.good_body(("while", expression, ()))
                self.good_body(("collect", "x", "add", expression))
        for depth in (11, 12, 30):
            for expression in deep_expressions(depth):
                self.bad_expression(expression)

    def test_expressions_in_deep_bodies(self):
        for expression in deep_expressions(10):
            self.good_body(*nested(10, in_while, (("let", "x", expression),)))
        for expression in deep_expressions(11):
            self.bad_body(*nested(10, in_while, (("let", "x", expression),)))

    def test_100_and_101_statements(self):
        self.good_body(*[("barrier",)] * 99)
        self.good_body(*[("barrier",)] * 100)
        self.bad_body(*[("barrier",)] * 101)
        self.bad_body(*[("barrier",)] * 100000)

    def test_100_and_101_statements_inside_of_others(self):
        for wrap in (in_while, in_then, in_else):
            self.good_body(wrap((("barrier",),) * 49), *[("barrier",)] * 50)
            self.bad_body(wrap((("barrier",),) * 50), *[("barrier",)] * 50)
            self.bad_body(wrap((("barrier",),) * 49), *[("barrier",)] * 51)
            self.good_body(wrap((("barrier",),) * 99))
            self.bad_body(wrap((("barrier",),) * 100))
        self.good_body(("if", ONE, (("barrier",),) * 49, (("barrier",),) * 50))
        self.bad_body(("if", ONE, (("barrier",),) * 50, (("barrier",),) * 50))

    def test_statements_of_one_kernel_do_not_count_for_the_next(self):
        for _ in range(3):
            self.good_body(*[("barrier",)] * 100)


class AnyValueTest(KernelCase):
    def checked(self, value):
        """Tell whether a value is a good kernel, and fail for any other error."""
        try:
            self.assertIsNone(check_kernel(value))
        except DrawloomError as error:
            self.assertIs(type(error), BadKernel)
            return False
        return True

    def test_odd_values(self):
        for value in ODD:
            self.bad(value)
            self.bad((value,) * 3 if value != () else ())
            self.bad(([value], (), ()))

    def test_each_part_replaced_by_odd_values(self):
        for path in places(EVERYTHING):
            for odd in ODD:
                self.checked(replaced(EVERYTHING, path, odd))

    def test_each_part_replaced_by_each_other_part(self):
        parts = [part_at(EVERYTHING, path) for path in places(EVERYTHING)]
        for path in places(EVERYTHING):
            for part in parts:
                self.checked(replaced(EVERYTHING, path, part))

    def test_very_deep_values(self):
        for make in (lambda v: (v,), lambda v: [v], lambda v: ("unary", "neg", v), in_while, in_else):
            value = ()
            for _ in range(50000):
                value = make(value)
            for whole in (value, ((), (), value), ((), (), (value,)), with_expression(value), (value, (), ())):
                with self.assertRaises(BadKernel):
                    check_kernel(whole)

    def test_values_that_are_large_by_sharing(self):
        body = ()
        expression = ONE
        for _ in range(60):
            body = (in_then(body), in_then(body))
            expression = ("binary", "add", expression, expression)
        # Not by bad_body: a failure would print the value.
        for value in (with_body(*body), with_expression(expression)):
            with self.assertRaises(BadKernel):
                check_kernel(value)

    def test_the_value_stays_as_it_is(self):
        for value in (as_lists(EVERYTHING), list(EVERYTHING), [[["n", "int"]], [], []], EVERYTHING):
            before = copy.deepcopy(value)
            self.checked(value)
            self.assertEqual(value, before)


class StatementsTest(unittest.TestCase):
    def test_no_statements(self):
        self.assertEqual(statements(((), (), ())), [])

    def test_statements_side_by_side(self):
        body = (("let", "x", ONE), ("barrier",), ("set", "x", ONE), ("barrier",), ("return",))
        self.assertEqual(statements(with_body(*body)), list(body))

    def test_statements_inside_of_others(self):
        inner = ("while", ONE, (("break",), ("set", "n", ("word", 3))))
        choice = ("if", ONE, (("set", "n", ("word", 1)), inner), (("set", "n", ("word", 2)), ("return",)))
        outer = ("while", ONE, (choice, ("continue",)))
        kernel = with_body(("barrier",), outer, ("set", "n", ("word", 4)))
        self.assertEqual(statements(kernel), [
            ("barrier",), outer, choice, ("set", "n", ("word", 1)), inner, ("break",),
            ("set", "n", ("word", 3)), ("set", "n", ("word", 2)), ("return",), ("continue",),
            ("set", "n", ("word", 4)),
        ])

    def test_everything(self):
        words = [statement[0] for statement in statements(EVERYTHING)]
        self.assertEqual(words, [
            "let", "set", "set", "put", "atomic", "collect", "if", "let", "put", "let", "return",
            "while", "let", "if", "break", "continue", "while", "let", "barrier",
        ])

    def test_empty_bodies(self):
        body = (("if", ONE, (), ()), ("while", ONE, ()), ("barrier",))
        self.assertEqual(statements(with_body(*body)), list(body))

    def test_equal_statements_are_listed_each(self):
        self.assertEqual(statements(with_body(*[("barrier",)] * 3)), [("barrier",)] * 3)

    def test_at_the_bounds_and_somewhat_beyond(self):
        for depth in (10, 11, 15):
            found = statements(with_body(*nested(depth, in_else, (("barrier",),))))
            self.assertEqual([row[0] for row in found], ["if"] * (depth - 1) + ["barrier"])
        for many in (100, 101, 150):
            self.assertEqual(len(statements(with_body(*[("return",)] * many))), many)

    def test_results_share_no_list(self):
        first = statements(EVERYTHING)
        second = statements(EVERYTHING)
        self.assertIsNot(first, second)
        first.clear()
        self.assertEqual(len(second), 19)
        self.assertEqual(statements(EVERYTHING), second)

    def test_result_is_a_list_of_the_statements_themselves(self):
        found = statements(EVERYTHING)
        self.assertIs(type(found), list)
        for statement in found:
            self.assertIs(type(statement), tuple)


if __name__ == "__main__":
    unittest.main()
