"""Point 23: which values are machine code; and point 6: launches of code."""

import unittest

from drawloom.codes import check_code
from drawloom.errors import BadCode, BadLaunch
from drawloom.kernels import SPECIALS, check_launch
from drawloom.words import BINARY, FOLDING, UNARY
from tests.samples import GREATEST, LEAST, ODD, as_lists, places, replaced
from tests.short import PARAMS, SHARED, launch
from tests.shortcode import EACH, EXIT, TO_A, TO_B, TO_S, TO_T, code

WHOLE = (PARAMS, SHARED, 2, EACH)
MANY = len(EACH)

# The sort of each part of each instruction behind its first word.
SORTS = {
    "word": ("register", "word"), "param": ("register", "param"), "special": ("register", "special"),
    "copy": ("register", "register"), "unary": ("unary", "register", "register"),
    "binary": ("binary", "register", "register", "register"), "load": ("register", "array", "register"),
    "store": ("array", "register", "register"), "atomic": ("folding", "array", "register", "register"),
    "barrier": ("number",), "collect": ("folding", "register", "register", "number"),
    "get": ("register", "cell"), "keep": ("cell", "register"),
    "branch": ("register", "index", "join"), "jump": ("index",), "exit": (),
}
GOOD = {
    "register": tuple(range(8)), "word": (LEAST, -1, 0, 1, GREATEST), "param": (1,), "special": SPECIALS,
    "unary": UNARY, "binary": BINARY, "folding": FOLDING, "array": (TO_A, TO_B, TO_S, TO_T),
    "number": tuple(range(100)), "cell": (0, 1), "index": tuple(range(MANY)), "join": tuple(range(MANY + 1)),
}
WRONG = {
    "register": (-1, 8, 9, 1000), "word": (LEAST - 1, GREATEST + 1), "param": (-1, 0, 2, 3, 6),
    "special": ("", "x", "tids", ("tid",), ["tid"]), "unary": ("add", "", "nott"), "binary": ("neg", "plus", ""),
    "folding": ("sub", "mul", "eq", "not", ""), "array": (-1, 1, 3, 5, 8, 9), "number": (-1, 100),
    "cell": (-1, 2, 64), "index": (-1, MANY, MANY + 1), "join": (-1, -2, MANY + 1, MANY + 2),
}
# Wrong for each sort.
NEVER = (None, True, False, "0", "", (), [], (0,), [0], (1, 1), 10 ** 30)


def is_one_of(value, good):
    """Tell whether a value is one of some, of the same kind."""
    return any(type(value) is type(other) and value == other for other in good)


def is_code_by_words(value):
    """Tell whether a variant of the whole code is code, by the tables above."""
    if type(value) is not tuple or len(value) != 4 or not is_one_of(value[0], (PARAMS,)):
        return False
    _, shared, local, rows = value
    if not is_one_of(shared, (SHARED,)) or type(local) is not int or not 0 <= local <= 64:
        return False
    if type(rows) is not tuple or not rows:
        return False
    return all(is_row(row, local) for row in rows) and rows[-1][0] in ("exit", "jump")


def is_row(row, local):
    if type(row) is not tuple or not row or type(row[0]) is not str or row[0] not in SORTS:
        return False
    sorts = SORTS[row[0]]
    if len(row) != len(sorts) + 1:
        return False
    # The odd values have few other words than these.
    good = {**GOOD, "cell": range(local), "word": GOOD["word"] + tuple(range(100))}
    return all(is_one_of(part, good[sort]) for sort, part in zip(sorts, row[1:]))


class CodeCase(unittest.TestCase):
    def good(self, value):
        self.assertIsNone(check_code(value))

    def bad(self, value):
        with self.assertRaises(BadCode) as caught:
            check_code(value)
        self.assertIs(type(caught.exception), BadCode)

    def rows_good(self, *rows, local=2):
        self.good((PARAMS, SHARED, local, rows))

    def rows_bad(self, *rows, local=2):
        self.bad((PARAMS, SHARED, local, rows))


class InstructionsTest(CodeCase):
    def test_each_instruction(self):
        self.assertEqual([row[0] for row in EACH], [word for word in dict.fromkeys(row[0] for row in EACH)])
        self.assertEqual({row[0] for row in EACH}, set(SORTS))
        self.good(WHOLE)
        for row in EACH:
            if row[0] in ("branch", "jump"):
                row = row[:-1] + (0,) if row[0] == "jump" else ("branch", 0, 1, 2)
            self.rows_good(row, EXIT)

    def test_each_part_with_each_good_value(self):
        for at, row in enumerate(EACH):
            for index, sort in enumerate(SORTS[row[0]], 1):
                for part in GOOD[sort]:
                    self.good(replaced(WHOLE, (3, at, index), part))

    def test_each_part_once_wrong(self):
        for at, row in enumerate(EACH):
            for index, sort in enumerate(SORTS[row[0]], 1):
                for part in WRONG[sort] + NEVER:
                    self.bad(replaced(WHOLE, (3, at, index), part))

    def test_true_for_1(self):
        for at, row in enumerate(EACH):
            for index in range(1, len(row)):
                if 1 in GOOD[SORTS[row[0]][index - 1]]:
                    self.good(replaced(WHOLE, (3, at, index), 1))
                    self.bad(replaced(WHOLE, (3, at, index), True))
        self.good((PARAMS, SHARED, 1, (EXIT,)))
        self.bad((PARAMS, SHARED, True, (EXIT,)))

    def test_a_part_more_or_less(self):
        for at, row in enumerate(EACH):
            self.bad(replaced(WHOLE, (3, at), row + (0,)))
            self.bad(replaced(WHOLE, (3, at), row[:-1]))
            self.bad(replaced(WHOLE, (3, at), ()))

    def test_a_list_for_a_tuple(self):
        for at, row in enumerate(EACH):
            self.bad(replaced(WHOLE, (3, at), list(row)))
        for path in places(WHOLE):
            value = WHOLE
            for at in path:
                value = value[at]
            if isinstance(value, tuple):
                self.bad(replaced(WHOLE, path, list(value)))
        self.bad(as_lists(WHOLE))

    def test_other_words(self):
        for word in ("", "mov", "phi", "none", "goto", "Jump", "exits", None, 0, True, (), []):
            self.rows_bad((word,), EXIT)
            self.rows_bad((word, 0), EXIT)
            self.rows_bad((word, 0, 0), EXIT)

    def test_a_phi(self):
        self.rows_bad(("phi", 0, ()), EXIT)
        self.rows_bad(("phi", 0, ((0, 1),)), EXIT)
        self.rows_bad(("word", 0, 1), ("jump", 2), ("phi", 0, ((0, 1), (1, 2))), EXIT)

    def test_the_parts_of_a_graph(self):
        # A node, and an end of a node, are no instructions.
        self.rows_bad(((("word", 0, 1),), EXIT), EXIT)
        self.rows_bad(((), ("branch", 0, 1, 1)), EXIT)
        # With as many parts as a graph's branch has, the last one is a join.
        self.rows_good(("branch", 0, 1, 2), EXIT)
        self.rows_bad(("branch", 0, 1, 3), EXIT)
        self.rows_bad(("branch", 0, 1), EXIT)
        self.bad((PARAMS, SHARED, 8, (((("word", 0, 1),), EXIT),)))

    def test_indices_and_joins(self):
        for index in (0, 1, 2):
            self.rows_good(("branch", 0, index, 0), ("word", 0, 0), ("jump", index))
        for join in (0, 1, 2, 3):
            self.rows_good(("branch", 0, 0, join), ("word", 0, 0), EXIT)
        for index in (-1, 3, 4):
            self.rows_bad(("branch", 0, index, 0), ("word", 0, 0), EXIT)
            self.rows_bad(("word", 0, 0), ("word", 0, 0), ("jump", index))
        for join in (-1, 4, 5):
            self.rows_bad(("branch", 0, 0, join), ("word", 0, 0), EXIT)

    def test_local_cells(self):
        for local in (0, 1, 2, 64):
            for cell in (0, 1, 63):
                for row in (("get", 0, cell), ("keep", cell, 0)):
                    (self.rows_good if cell < local else self.rows_bad)(row, EXIT, local=local)

    def test_arrays_and_parameters_that_are_not_there(self):
        for rows in ((("param", 0, 0), EXIT), (("load", 0, 0, 0), EXIT), (("store", 6, 0, 0), EXIT)):
            self.bad(((), (), 0, rows))
        params = (("a", "buffer"),)
        self.good((params, (), 0, (("load", 0, 0, 0), EXIT)))
        self.bad((params, (), 0, (("param", 0, 0), EXIT)))
        self.bad((params, (), 0, (("load", 0, 1, 0), EXIT)))
        self.bad((params, (("s", 1),), 0, (("load", 0, 7, 0), EXIT)))
        six = tuple((name, "int") for name in "abcdef")
        for index in range(6):
            self.good((six, (("s", 1),), 0, (("param", 0, index), ("load", 0, 6, 0), EXIT)))
        self.bad((six, (("s", 1),), 0, (("param", 0, -1), EXIT)))
        self.bad((six, (("s", 1),), 0, (("param", 0, 6), EXIT)))


class WholeTest(CodeCase):
    def test_the_last_instruction(self):
        for row in EACH:
            row = ("branch", 0, 0, 1) if row[0] == "branch" else ("jump", 0) if row[0] == "jump" else row
            (self.rows_good if row[0] in ("exit", "jump") else self.rows_bad)(row)
            (self.rows_good if row[0] in ("exit", "jump") else self.rows_bad)(EXIT, row)

    def test_numbers_of_instructions(self):
        self.rows_bad()
        self.rows_good(EXIT)
        self.rows_good(("jump", 0))
        for many in (1999, 2000):
            self.rows_good(*[("word", 0, 1)] * (many - 1), EXIT)
            self.rows_good(*[("branch", 7, many - 1, many)] * (many - 1), ("jump", many - 1))
        for many in (2001, 2002, 5000):
            self.rows_bad(*[("word", 0, 1)] * (many - 1), EXIT)

    def test_numbers_of_local_cells(self):
        for local in (0, 1, 63, 64):
            self.rows_good(EXIT, local=local)
        for local in (-1, 65, 10 ** 20, None, "1", True, False, (), (1,), [2]):
            self.rows_bad(EXIT, local=local)

    def test_params_and_shared_that_are_none_of_a_kernel(self):
        for params in (
            (("a", "buffers"),), (("a",),), ("a",), (("", "int"),), (("1a", "int"),), (("a", "int"), ("a", "int")),
            (("s", "int"),), [("a", "int")], (["a", "int"],), None, 5, "a", tuple((name, "int") for name in "abcdefg"),
            (("a" * 13, "int"),), (("a", True),),
        ):
            self.bad((params, SHARED, 0, (EXIT,)))
        for shared in (
            (("s", 0),), (("s", 17),), (("s", True),), (("s",),), (("a", 3),), (("s", 1), ("s", 2)), [("s", 1)], None, 1,
            (("s", 1), ("t", 1), ("u", 1), ("v", 1)),
        ):
            self.bad((PARAMS, shared, 0, (EXIT,)))
        self.good(((("n", "int"),), (("s", 16), ("t", 1), ("u", 2)), 0, (EXIT,)))

    def test_values_that_are_no_tuple_of_four(self):
        for value in ODD:
            self.bad(value)
        self.bad(WHOLE[:3])
        self.bad(WHOLE + (0,))
        self.bad(list(WHOLE))
        self.bad((PARAMS, SHARED, EACH))
        self.bad((PARAMS, SHARED, EACH, 2))

    def test_odd_values_anywhere(self):
        found = {True: 0, False: 0}
        for path in places(WHOLE):
            for odd in ODD:
                # Other names and sizes of arrays may be good ones, too.
                if path[:1] not in ((0,), (1,)):
                    value = replaced(WHOLE, path, odd)
                    told = is_code_by_words(value)
                    found[told] += 1
                    (self.good if told else self.bad)(value)
        self.assertGreater(min(found.values()), 50)


class LaunchTest(unittest.TestCase):
    def test_launches_of_code(self):
        value = code(EXIT)
        for start in (launch(), launch(4, 8), launch(1, 1, a=(), b=()), (2, 2, (0, -5, 0), ((1, 2),))):
            self.assertIsNone(check_launch(value, start))

    def test_wrong_ones(self):
        value = code(*EACH, local=2)
        good = launch()
        for path, part in (
            ((0,), 0), ((0,), 5), ((1,), 0), ((1,), 9), ((0,), True), ((2,), (0, 5)), ((2, 0), 2), ((2, 0), -1),
            ((2, 1), 2 ** 31), ((2, 1), True), ((2,), (0, 5, 1, 0)), ((3, 0, 0), None), ((3,), ()), ((3, 1), [0]),
            ((3, 0), (0,) * 25), ((), None), ((), ()),
        ):
            with self.assertRaises(BadLaunch) as caught:
                check_launch(value, replaced(good, path, part))
            self.assertIs(type(caught.exception), BadLaunch)


if __name__ == "__main__":
    unittest.main()
