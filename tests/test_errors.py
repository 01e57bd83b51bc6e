"""Point 2: the error classes."""

import unittest

from drawloom import errors
from drawloom.codes import check_code
from drawloom.emitting import compiled, emitted
from drawloom.forming import in_form, out_of_form
from drawloom.graphs import check_graph
from drawloom.improving import improved, is_improved
from drawloom.kernels import check_kernel, check_launch
from drawloom.lowering import lowered
from drawloom.machines import Machine
from drawloom.meaning import World
from drawloom.places import assigned
from drawloom.warps import FreeWarp, Warp

CODE = ((), (), 0, (("exit",),))
START = (1, 1, (), ())
# A register is used that nothing writes.
NOT_IN_FORM = ((), (), 2, (((("copy", 1, 0),), ("exit",)),))
# More registers that clash than there are places for them.
NUMBERS = tuple(range(70))
CROWDED = ((), (("s", 1),), 70, ((
    tuple(("word", k, k) for k in NUMBERS) + tuple(("store", 6, k, k) for k in NUMBERS), ("exit",)),))
SUMS = (("binary", "add", 0, 1, 2),) * 600
WHOLE = ((("n", "int"),), (("s", 1),), (("put", "s", ("word", 0), (
    "pick", ("pick", ("name", "n"), ("name", "n"), ("name", "n")), ("unary", "neg", ("name", "n")), ("name", "n"))),) * 100)

# For each class some calls that raise an error of it.
RAISING = {
    "BadKernel": (lambda: check_kernel(((), (), (("break",),))), lambda: check_kernel(None)),
    "BadLaunch": (lambda: check_launch(((), (), ()), (0, 1, (), ())), lambda: check_launch(CODE, None)),
    "BadGraph": (
        lambda: check_graph(CODE), lambda: in_form(((), (), 1, (((), ("jump", 1)), ((("phi", 0, ((0, 0),)),), ("exit",))))),
        lambda: emitted(NOT_IN_FORM, (0, 5)), lambda: emitted(NOT_IN_FORM, (-65, 0)),
    ),
    "NotInForm": (
        lambda: out_of_form(NOT_IN_FORM), lambda: improved(NOT_IN_FORM), lambda: is_improved(NOT_IN_FORM),
    ),
    "NotReady": (
        lambda: World(((), (), ()), START).step(0), lambda: Machine(CODE, START, (1, False, 1, 1, 0)).act(1),
        lambda: Warp(CODE, START, 0, 0, 1).step(1, [0]), lambda: FreeWarp(CODE, START, 0, 0, 1).release([]),
    ),
    "TooLarge": (
        lambda: lowered(WHOLE), lambda: compiled(WHOLE, 1), lambda: assigned(CROWDED, 5),
        lambda: emitted(((), (), 3, ((SUMS, ("exit",)),)), (-1, -2, -3)),
    ),
    "BadCode": (lambda: check_code(WHOLE), lambda: check_code(CODE[:3] + (CODE[3] + (("barrier", 0),),))),
}

NAMES = ("BadKernel", "BadLaunch", "BadGraph", "NotInForm", "NotReady", "TooLarge", "BadCode")


class ErrorsTest(unittest.TestCase):
    def test_base_class_is_a_value_error(self):
        self.assertEqual(errors.DrawloomError.__bases__, (ValueError,))

    def test_each_error_is_a_drawloom_error_and_a_value_error(self):
        for name in NAMES:
            error = getattr(errors, name)("told")
            self.assertIsInstance(error, errors.DrawloomError, name)
            self.assertIsInstance(error, ValueError, name)

    def test_no_error_is_an_instance_of_another_class(self):
        for name in NAMES:
            for other in NAMES:
                held = issubclass(getattr(errors, name), getattr(errors, other))
                self.assertEqual(held, name == other, (name, other))

    def test_errors_that_functions_raise(self):
        self.assertEqual(set(RAISING), set(NAMES))
        for name, calls in RAISING.items():
            for call in calls:
                with self.assertRaises(errors.DrawloomError) as caught:
                    call()
                error = caught.exception
                self.assertIsInstance(error, ValueError)
                self.assertEqual([other for other in NAMES if isinstance(error, getattr(errors, other))], [name])
                self.assertEqual(vars(error), {})

    def test_base_class_is_none_of_the_errors(self):
        for name in NAMES:
            self.assertFalse(issubclass(errors.DrawloomError, getattr(errors, name)), name)

    def test_each_error_derives_from_the_base_class_alone(self):
        for name in NAMES:
            self.assertEqual(getattr(errors, name).__bases__, (errors.DrawloomError,), name)

    def test_errors_have_no_fields(self):
        for name in NAMES:
            self.assertEqual(vars(getattr(errors, name)("told")), {}, name)


if __name__ == "__main__":
    unittest.main()
