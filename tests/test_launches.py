"""Point 6: which values are launches."""

import copy
import unittest

from drawloom.errors import BadLaunch, DrawloomError
from drawloom.kernels import check_launch
from tests.samples import EVERYTHING, GREATEST, LEAST, ODD, as_lists, part_at, places, replaced

INTS = ((("n", "int"), ("m", "int")), (), ())
BUFFERS = ((("a", "buffer"), ("b", "buffer"), ("c", "buffer")), (), ())
NOTHING = ((), (), ())

# The kernel EVERYTHING has the parameters a buffer, an int and a buffer.
GOOD = (2, 3, (1, -5, 0), ((1, 2, 3), (), (LEAST, GREATEST)))

PARAMS = (("a", "buffer"), ("n", "int"), ("b", "buffer"))
GRAPH = (PARAMS, (("s", 2),), 1, (((("word", 0, 1),), ("jump", 1)), ((), ("exit",))))
CODE = (PARAMS, (("s", 2),), 0, (("word", 0, 1), ("exit",)))


class LaunchCase(unittest.TestCase):
    def good(self, kernel, value):
        self.assertIsNone(check_launch(kernel, value), (value,))

    def bad(self, kernel, value):
        with self.assertRaises(BadLaunch, msg=(value,)) as caught:
            check_launch(kernel, value)
        self.assertIs(type(caught.exception), BadLaunch)


class GoodLaunchTest(LaunchCase):
    def test_buffers_and_ints(self):
        self.good(EVERYTHING, GOOD)

    def test_neither_parameters_nor_buffers(self):
        self.good(NOTHING, (1, 1, (), ()))
        self.good(NOTHING, (4, 8, (), ((), (1,))))

    def test_several_parameters_that_are_the_same_buffer(self):
        self.good(BUFFERS, (1, 1, (0, 0, 0), ((1, 2),)))
        self.good(BUFFERS, (1, 1, (1, 0, 1), ((1, 2), ())))

    def test_buffers_that_no_parameter_is(self):
        self.good(BUFFERS, (1, 1, (3, 3, 3), ((), (), (), (7,))))
        self.good(INTS, (1, 1, (0, 0), ((), (), (), (7,))))

    def test_equal_buffers(self):
        self.good(BUFFERS, (1, 1, (0, 1, 1), ((1, 2), (1, 2))))


class FormTest(LaunchCase):
    def test_no_tuple_of_four(self):
        for value in ODD + (GOOD[:3], GOOD + ((),), list(GOOD), as_lists(GOOD), (GOOD,)):
            self.bad(EVERYTHING, value)
            self.bad(NOTHING, value)

    def test_a_list_for_a_tuple(self):
        for path in ((), (2,), (3,), (3, 0), (3, 1), (3, 2)):
            part = part_at(GOOD, path)
            self.bad(EVERYTHING, replaced(GOOD, path, list(part)))
            self.bad(EVERYTHING, replaced(GOOD, path, as_lists(part)))

    def test_grids(self):
        for grid in (1, 2, 3, 4):
            self.good(NOTHING, (grid, 1, (), ()))
        for grid in (0, 5, -1, 10 ** 40, -(10 ** 40), True, False, None, "1", (1,), [1]):
            self.bad(NOTHING, (grid, 1, (), ()))

    def test_blocks(self):
        for block in (1, 2, 7, 8):
            self.good(NOTHING, (1, block, (), ()))
        for block in (0, 9, -1, 10 ** 40, -(10 ** 40), True, False, None, "1", (1,), [1]):
            self.bad(NOTHING, (1, block, (), ()))

    def test_numbers_of_buffers(self):
        for many in range(5):
            self.good(NOTHING, (1, 1, (), ((1,),) * many))
        for many in (5, 6, 1000):
            self.bad(NOTHING, (1, 1, (), ((1,),) * many))

    def test_buffers_that_are_no_tuples(self):
        for value in (None, True, 0, "", "a", [], [(1,)]):
            self.bad(NOTHING, (1, 1, (), value))
            self.bad(NOTHING, (1, 1, (), (value,)))
            self.bad(NOTHING, (1, 1, (), ((1,), (2,), value)))

    def test_numbers_of_cells(self):
        for many in (0, 1, 23, 24):
            self.good(NOTHING, (1, 1, (), ((5,) * many,)))
            self.good(NOTHING, (1, 1, (), ((), (5,) * many)))
        for many in (25, 26, 10000):
            self.bad(NOTHING, (1, 1, (), ((5,) * many,)))
            self.bad(NOTHING, (1, 1, (), ((), (5,) * many)))

    def test_cells(self):
        for word in (0, 1, -1, LEAST, GREATEST):
            self.good(NOTHING, (1, 1, (), ((0, word),)))
        for word in (LEAST - 1, GREATEST + 1, 10 ** 90, True, False, None, "1", (1,), [1], ()):
            self.bad(NOTHING, (1, 1, (), ((word,),)))
            self.bad(NOTHING, (1, 1, (), ((), (0, word),)))
            self.bad(NOTHING, (1, 1, (), ((), (0, word, 0))))


class ArgumentsTest(LaunchCase):
    def test_arguments_that_are_no_tuple(self):
        for value in (None, True, 0, "", "a", "ab", [], [0, 0]):
            self.bad(NOTHING, (1, 1, value, ()))
            self.bad(INTS, (1, 1, value, ()))

    def test_an_argument_more_or_less(self):
        self.good(INTS, (1, 1, (0, 0), ((1,),)))
        for arguments in ((), (0,), (0, 0, 0), (0,) * 7):
            self.bad(INTS, (1, 1, arguments, ((1,),)))
        for arguments in ((), (0, 0), (0, 0, 0, 0)):
            self.bad(BUFFERS, (1, 1, arguments, ((1,),)))
        self.bad(NOTHING, (1, 1, (0,), ((1,),)))

    def test_words(self):
        for word in (0, 1, -1, LEAST, GREATEST):
            self.good(INTS, (1, 1, (word, 0), ()))
            self.good(INTS, (1, 1, (0, word), ()))
        for word in (LEAST - 1, GREATEST + 1, 2 ** 32, 10 ** 90, True, False, None, "1", (1,), [1]):
            self.bad(INTS, (1, 1, (word, 0), ()))
            self.bad(INTS, (1, 1, (0, word), ()))

    def test_indices_of_buffers(self):
        kernel = (PARAMS[:1], (), ())
        for many in range(1, 5):
            buffers = ((1, 2),) * many
            for index in range(many):
                self.good(kernel, (1, 1, (index,), buffers))
            for index in (-1, -many, many, many + 1, LEAST, GREATEST, True, False, None, "0", (0,), [0]):
                self.bad(kernel, (1, 1, (index,), buffers))

    def test_an_index_where_there_is_no_buffer(self):
        for index in (-1, 0, 1):
            self.bad((PARAMS[:1], (), ()), (1, 1, (index,), ()))

    def test_arguments_in_the_order_of_the_parameters(self):
        buffers = ((), (), ())
        self.good(EVERYTHING, (1, 1, (2, 99, 1), buffers))
        self.bad(EVERYTHING, (1, 1, (99, 2, 1), buffers))
        self.bad(EVERYTHING, (1, 1, (2, 1, 99), buffers))


class GraphsAndCodeTest(LaunchCase):
    def test_launches(self):
        for kernel in (GRAPH, CODE):
            self.good(kernel, GOOD)
            self.good(kernel, (4, 8, (0, LEAST, 0), ((),)))

    def test_no_launches(self):
        for kernel in (GRAPH, CODE):
            for path, part in (
                ((0,), 0), ((0,), 5), ((1,), 0), ((1,), 9), ((2,), (1, -5)), ((2,), (1, -5, 0, 0)),
                ((2, 0), 3), ((2, 0), -1), ((2, 1), GREATEST + 1), ((2, 2), True), ((3,), ()),
                ((3, 0), (5,) * 25), ((3, 0), [1]), ((3,), ((),) * 5),
            ):
                self.bad(kernel, replaced(GOOD, path, part))
            for value in ODD:
                self.bad(kernel, value)


class AnyValueTest(LaunchCase):
    def checked(self, kernel, value):
        """Tell whether a value is a launch, and fail for any other error."""
        try:
            self.assertIsNone(check_launch(kernel, value))
        except DrawloomError as error:
            self.assertIs(type(error), BadLaunch)
            return False
        return True

    def test_each_part_replaced_by_odd_values(self):
        for kernel in (EVERYTHING, GRAPH, CODE):
            for path in places(GOOD):
                for odd in ODD:
                    self.checked(kernel, replaced(GOOD, path, odd))

    def test_very_deep_values(self):
        value = ()
        for _ in range(50000):
            value = (value,)
        for path in places(GOOD):
            with self.assertRaises(BadLaunch):
                check_launch(EVERYTHING, replaced(GOOD, path, value))

    def test_the_value_stays_as_it_is(self):
        for value in (GOOD, as_lists(GOOD), replaced(GOOD, (2,), [1, -5, 0]), replaced(GOOD, (3, 0), [1])):
            before = copy.deepcopy(value)
            self.checked(EVERYTHING, value)
            self.assertEqual(value, before)

    def test_no_answer_depends_on_earlier_calls(self):
        for _ in range(3):
            self.good(EVERYTHING, GOOD)
            self.bad(EVERYTHING, replaced(GOOD, (0,), 5))


if __name__ == "__main__":
    unittest.main()
