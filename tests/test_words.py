"""Point 3: words and operators."""

import unittest
from fractions import Fraction
from itertools import permutations

from drawloom.words import BINARY, FOLDING, UNARY, binary, fold, neutral, unary, wrapped
from tests.samples import GREATEST, LEAST

WORDS = (
    LEAST, LEAST + 1, -(2 ** 16), -100, -33, -32, -31, -8, -7, -3, -2, -1,
    0, 1, 2, 3, 7, 8, 31, 32, 33, 100, 2 ** 16, GREATEST - 1, GREATEST,
)


def word_of(number):
    """Return the word of an integer by its four lowest bytes."""
    rest = number & 0xFFFFFFFF
    return int.from_bytes(rest.to_bytes(4, "big"), "big", signed=True)


def by_bits(a, b, told):
    """Return the word whose bits are told by those of a and b."""
    bits = [told[(a >> k & 1, b >> k & 1)] for k in range(32)]
    return word_of(sum(bit * 2 ** k for k, bit in enumerate(bits)))


def towards_zero(a, b):
    """Return a / b rounded towards 0; int() of a fraction does that."""
    return 0 if b == 0 else int(Fraction(a, b))


def bit_table(both, first, second):
    """Return a table of what two bits become, 0 for two zeros."""
    return {(1, 1): both, (1, 0): first, (0, 1): second, (0, 0): 0}


EXPECTED = {
    "add": lambda a, b: a + b,
    "sub": lambda a, b: a - b,
    "mul": lambda a, b: a * b,
    "div": towards_zero,
    "rem": lambda a, b: 0 if b == 0 else a - b * towards_zero(a, b),
    "and": lambda a, b: by_bits(a, b, bit_table(1, 0, 0)),
    "or": lambda a, b: by_bits(a, b, bit_table(1, 1, 1)),
    "xor": lambda a, b: by_bits(a, b, bit_table(0, 1, 1)),
    "shl": lambda a, b: a * 2 ** (b % 32),
    "shr": lambda a, b: a // 2 ** (b % 32),
    "lt": lambda a, b: int(a < b),
    "le": lambda a, b: int(a <= b),
    "eq": lambda a, b: int(a == b),
    "ne": lambda a, b: int(a != b),
    "min": min,
    "max": max,
}

# Operator, a, b, and the word that point 3 says.
SPELLED_OUT = (
    ("add", 2, 3, 5), ("add", GREATEST, 1, LEAST), ("add", LEAST, LEAST, 0),
    ("sub", 2, 3, -1), ("sub", LEAST, 1, GREATEST), ("sub", 0, LEAST, LEAST),
    ("mul", -4, 5, -20), ("mul", GREATEST, GREATEST, 1), ("mul", 65536, 65536, 0),
    ("mul", LEAST, -1, LEAST), ("mul", 65536, 32768, LEAST),
    ("div", 7, 2, 3), ("div", -7, 2, -3), ("div", 7, -2, -3), ("div", -7, -2, 3),
    ("div", 1, 2, 0), ("div", -1, 2, 0), ("div", 1, -2, 0), ("div", -1, -2, 0),
    ("div", 6, 3, 2), ("div", -6, 3, -2), ("div", 0, 5, 0), ("div", 0, -5, 0),
    ("div", 7, 0, 0), ("div", -7, 0, 0), ("div", 0, 0, 0), ("div", LEAST, 0, 0),
    ("div", LEAST, -1, LEAST), ("div", LEAST, 1, LEAST), ("div", LEAST, LEAST, 1),
    ("div", GREATEST, LEAST, 0), ("div", LEAST, GREATEST, -1),
    ("rem", 7, 2, 1), ("rem", -7, 2, -1), ("rem", 7, -2, 1), ("rem", -7, -2, -1),
    ("rem", 6, 3, 0), ("rem", -6, 3, 0), ("rem", 1, 5, 1), ("rem", -1, 5, -1),
    ("rem", 7, 0, 0), ("rem", -7, 0, 0), ("rem", 0, 0, 0), ("rem", LEAST, 0, 0),
    ("rem", LEAST, -1, 0), ("rem", LEAST, GREATEST, -1), ("rem", GREATEST, LEAST, GREATEST),
    ("and", 12, 10, 8), ("and", -1, 5, 5), ("and", LEAST, GREATEST, 0), ("and", -2, -4, -4),
    ("or", 12, 10, 14), ("or", -1, 5, -1), ("or", LEAST, GREATEST, -1), ("or", 0, 0, 0),
    ("xor", 12, 10, 6), ("xor", -1, 5, -6), ("xor", LEAST, -1, GREATEST), ("xor", 7, 7, 0),
    ("shl", 1, 4, 16), ("shl", 1, 0, 1), ("shl", 1, 31, LEAST), ("shl", 3, 31, LEAST),
    ("shl", 1, 32, 1), ("shl", 1, 33, 2), ("shl", 1, -1, LEAST), ("shl", 1, -31, 2),
    ("shl", 5, -32, 5), ("shl", -1, 4, -16), ("shl", GREATEST, 1, -2), ("shl", 1, LEAST, 1),
    ("shl", 1, GREATEST, LEAST),
    ("shr", 16, 4, 1), ("shr", 17, 4, 1), ("shr", 1, 0, 1), ("shr", -16, 4, -1),
    ("shr", -1, 31, -1), ("shr", -5, 1, -3), ("shr", GREATEST, 30, 1), ("shr", LEAST, 31, -1),
    ("shr", 5, 32, 5), ("shr", 5, 33, 2), ("shr", LEAST, -1, -1), ("shr", 8, -31, 4),
    ("shr", 5, -32, 5), ("shr", 5, LEAST, 5), ("shr", GREATEST, GREATEST, 0),
    ("lt", 1, 2, 1), ("lt", 2, 2, 0), ("lt", 3, 2, 0), ("lt", LEAST, GREATEST, 1),
    ("lt", GREATEST, LEAST, 0), ("lt", -1, 0, 1),
    ("le", 1, 2, 1), ("le", 2, 2, 1), ("le", 3, 2, 0), ("le", LEAST, GREATEST, 1),
    ("le", GREATEST, LEAST, 0), ("le", -1, 0, 1),
    ("eq", 2, 2, 1), ("eq", 2, -2, 0), ("eq", LEAST, LEAST, 1), ("eq", LEAST, GREATEST, 0),
    ("ne", 2, 2, 0), ("ne", 2, -2, 1), ("ne", LEAST, LEAST, 0), ("ne", LEAST, GREATEST, 1),
    ("min", 2, 3, 2), ("min", 3, 2, 2), ("min", -1, 0, -1), ("min", LEAST, GREATEST, LEAST),
    ("max", 2, 3, 3), ("max", 3, 2, 3), ("max", -1, 0, 0), ("max", LEAST, GREATEST, GREATEST),
)


class OrderTest(unittest.TestCase):
    def test_operators_in_the_order_of_the_point(self):
        self.assertEqual(BINARY, (
            "add", "sub", "mul", "div", "rem", "and", "or", "xor", "shl", "shr",
            "lt", "le", "eq", "ne", "min", "max",
        ))
        self.assertEqual(UNARY, ("neg", "not", "zero"))
        self.assertEqual(FOLDING, ("add", "min", "max", "and", "or", "xor"))


class WrappedTest(unittest.TestCase):
    def test_words_stay(self):
        for word in WORDS:
            self.assertEqual(wrapped(word), word)

    def test_just_beyond_the_bounds(self):
        self.assertEqual(wrapped(GREATEST + 1), LEAST)
        self.assertEqual(wrapped(LEAST - 1), GREATEST)
        self.assertEqual(wrapped(2 ** 32 - 1), -1)
        self.assertEqual(wrapped(2 ** 32), 0)
        self.assertEqual(wrapped(-(2 ** 32)), 0)

    def test_far_beyond_the_bounds(self):
        for times in (1, 2, 3, 10 ** 6, 2 ** 100 + 1, 10 ** 90):
            for word in WORDS:
                self.assertEqual(wrapped(word + times * 2 ** 32), word)
                self.assertEqual(wrapped(word - times * 2 ** 32), word)


class BinaryTest(unittest.TestCase):
    def test_spelled_out(self):
        for op, a, b, word in SPELLED_OUT:
            self.assertEqual(binary(op, a, b), word, (op, a, b))

    def test_each_operator_is_spelled_out(self):
        self.assertEqual({row[0] for row in SPELLED_OUT}, set(BINARY))

    def test_each_operator_on_all_pairs_of_some_words(self):
        self.assertEqual(list(EXPECTED), list(BINARY))
        for op in BINARY:
            for a in WORDS:
                for b in WORDS:
                    self.assertEqual(binary(op, a, b), word_of(EXPECTED[op](a, b)), (op, a, b))

    def test_shifts_by_each_amount(self):
        for amount in range(-70, 70):
            for a in (LEAST, -77, -1, 0, 1, 123456789, GREATEST):
                left = word_of(a * 2 ** (amount % 32))
                self.assertEqual(binary("shl", a, amount), left, (a, amount))
                self.assertEqual(binary("shr", a, amount), a // 2 ** (amount % 32), (a, amount))

    def test_results_are_integers_and_no_bools(self):
        for op in BINARY:
            for a, b in ((1, 2), (2, 1), (2, 2), (0, 0)):
                self.assertIs(type(binary(op, a, b)), int, op)


class UnaryTest(unittest.TestCase):
    def test_neg(self):
        for a, word in ((5, -5), (-5, 5), (0, 0), (1, -1), (GREATEST, -GREATEST)):
            self.assertEqual(unary("neg", a), word)
        self.assertEqual(unary("neg", LEAST), LEAST)

    def test_not(self):
        for a, word in ((0, -1), (-1, 0), (1, -2), (5, -6), (GREATEST, LEAST), (LEAST, GREATEST)):
            self.assertEqual(unary("not", a), word)

    def test_zero(self):
        for a, word in ((0, 1), (1, 0), (-1, 0), (GREATEST, 0), (LEAST, 0), (77, 0)):
            self.assertEqual(unary("zero", a), word)

    def test_results_are_integers_and_no_bools(self):
        for op in UNARY:
            for a in (0, 1, -1):
                self.assertIs(type(unary(op, a)), int, op)


class FoldTest(unittest.TestCase):
    def test_neutral_words(self):
        self.assertEqual([neutral(op) for op in FOLDING], [0, GREATEST, LEAST, -1, 0, 0])

    def test_neutral_words_change_nothing(self):
        for op in FOLDING:
            for word in WORDS:
                self.assertEqual(binary(op, neutral(op), word), word, (op, word))
                self.assertEqual(binary(op, word, neutral(op)), word, (op, word))

    def test_no_words(self):
        for op in FOLDING:
            self.assertEqual(fold(op, []), neutral(op), op)
            self.assertEqual(fold(op, ()), neutral(op), op)

    def test_one_word(self):
        for op in FOLDING:
            for word in WORDS:
                self.assertEqual(fold(op, [word]), word, (op, word))

    def test_several_words_in_each_order(self):
        words = (12, -7, 0, GREATEST, 10)
        expected = {
            "add": word_of(GREATEST + 15), "min": -7, "max": GREATEST,
            "and": 0, "or": -1, "xor": -7 ^ 12 ^ 10 ^ GREATEST,
        }
        for op in FOLDING:
            for order in permutations(words):
                self.assertEqual(fold(op, list(order)), expected[op], (op, order))

    def test_words_that_wrap(self):
        self.assertEqual(fold("add", [GREATEST, GREATEST, GREATEST]), GREATEST - 2)
        self.assertEqual(fold("add", [LEAST, -1]), GREATEST)
        self.assertEqual(fold("and", [14, 13, 11]), 8)
        self.assertEqual(fold("or", [1, 2, 8]), 11)
        self.assertEqual(fold("xor", [1, 3, 8]), 10)
        self.assertEqual(fold("min", [3, LEAST, 5]), LEAST)
        self.assertEqual(fold("max", [-3, -9, -5]), -3)

    def test_the_list_stays_as_it_is(self):
        for op in FOLDING:
            words = [3, 1, 2, 1]
            fold(op, words)
            self.assertEqual(words, [3, 1, 2, 1], op)

    def test_no_answer_depends_on_earlier_calls(self):
        for op in FOLDING:
            first = fold(op, [5, 6])
            fold(op, [-100, 100])
            self.assertEqual(fold(op, [5, 6]), first, op)


if __name__ == "__main__":
    unittest.main()
