"""The interface: how calls stand in the list, and what is given back."""

import unittest

from helper import ask, different, line, parted, put
from quiltshop.workshop import answers


class Interface(unittest.TestCase):
    def test_a_whole_list_number_by_number(self):
        calls = [
            0, 199, 10, 0,
            0, 200, 10, 0,
            1, 0, 5, 124, 65, 47, 66, 67,
            1, 1, 0,
            1, 7, 2, 36, 97,
            5, 0,
            6, 7,
            7, 0,
            8, 0,
            9, 7,
            10, 0,
            11, 0, 7,
            12, 0,
            2, 0,
            2, 7,
            3,
            4,
            4,
            8, 7,
        ]
        expected = [
            1, -22,
            1, 0,
            1, 0,
            1, -71,
            1, 0,
            6, 5, 124, 65, 47, 66, 67,
            1, 1,
            1, 128,
            2, 1, 2,
            8, 1, 2, 0, 1, 1, 1, 2, 3,
            10, 0, 2, 1, 1, 0, 0, 0, 0, 0, 0,
            1, 1,
            2, 1, 1,
            1, -35,
            1, 0,
            1, 2,
            1, 0,
            1, -6,
            1, -2,
        ]
        self.assertEqual(answers(calls), expected)

    def test_a_whole_list_of_the_other_calls(self):
        calls = [
            0, 200, 10, 1,
            25,
            17,
            1, 0, 6, 124, 65, 124, 65, 66, 67,
            1, 0, 7, 124, 65, 124, 65, 47, 66, 67,
            13, 0,
            14, 1,
            14, 10,
            15, 1, 30,
            15, 2, 13,
            15, 3, 12,
            17,
            18,
            15, 3, 2,
            18,
            16, 3,
            18,
            25,
            21, 1,
            21, 2,
            22,
            19, 1,
            20,
            23,
            19, 0,
            19, 0,
            20,
            22,
            3,
            23,
            25,
            4,
            15, 1, 1000000,
            15, 2, 13,
            15, 3, 12,
            18,
            24,
            24,
        ]
        expected = [
            1, 0,
            4, 0, 0, 0, 0,
            1, -2,
            1, -71,
            1, 0,
            5, 4, 1, 2, 0, 0,
            1, 12,
            1, -22,
            1, 30,
            1, 13,
            1, 12,
            10, 1, 0, 0, 1, 0, 0, 0, 0, 0, 0,
            1, -35,
            1, 14,
            1, 2,
            3, 1, 14, 13,
            1, -16,
            4, 1, 0, 1, 0,
            8, 0, 0, 2, 1, 1, 1, 2, 3,
            1, -2,
            1, 2,
            1, -2,
            1, 0,
            1, -61,
            1, 0,
            1, -17,
            1, -6,
            1, 1,
            1, 0,
            1, 1,
            4, 0, 1, 0, 1,
            1, 0,
            1, 1000018,
            1, 13,
            1, 13,
            1, 2,
            1, 1,
            1, -16,
        ]
        self.assertEqual(answers(calls), expected)

    def test_one_call(self):
        self.assertEqual(answers([0, 3000, 200, 20]), [1, 0])
        self.assertEqual(answers([0, 3000, 200, 21]), [1, -22])

    def test_a_row_that_looks_like_calls(self):
        self.assertEqual(answers([0, 200, 10, 0, 1, 0, 4, 2, 0, 3, 4, 3]), [1, 0, 1, -71, 1, -6])
        self.assertEqual(ask(put(9, [1, 0, 1, 65]), ("text", 0)), [[-22], [-2]])

    def sample(self):
        words = ["|$b$c", "A", "/BC", "-$a$a", "$d", "\\EF", "y6$f", "$h", "x7A", "$a"]
        calls = [("start", 1000, 50, 5)]
        for place, text in enumerate(words):
            calls += [put(place % 8, text), ("draw", place % 8), ("uses", place % 9)]
        calls += [("undo",), ("undo",), ("redo",), ("drop", 0), ("same", 1, 2), ("fixing", 3), ("halves", 3)]
        calls += [put(0, different(6, 6)), ("plan", 0), *[("buy", c, 5000) for c in range(10)], ("lacks",), ("begin",)]
        calls += [("cloth", 1), ("need", 9), ("next",), ("seam", 34), ("piece", 35), ("parts",), ("finish",)]
        calls += [("state",)]
        return line(calls)

    def test_what_is_handed_in_is_not_changed(self):
        calls = self.sample()
        kept = list(calls)
        answers(calls)
        self.assertEqual(calls, kept)

    def test_what_is_given_back_is_new(self):
        calls = self.sample()
        first = answers(calls)
        kept = list(first)
        for place in range(len(first)):
            first[place] = 99
        self.assertEqual(answers(calls), kept)

    def test_nothing_is_kept_from_one_time_to_the_next(self):
        calls = self.sample()
        first = answers(calls)
        answers(line([("start", 200, 10, 0), put(0, "I"), put(1, "$a")]))
        self.assertEqual(answers(calls), first)
        self.assertEqual(answers(line([("start", 200, 10, 0), ("text", 0), ("undo",)])), [1, 0, 1, -2, 1, -6])
        self.assertEqual(answers(line([("start", 200, 10, 0), ("cloth", 1), ("state",), ("parts",)])),
                         [1, 0, 3, 0, 0, 0, 4, 0, 0, 0, 0, 1, -16])

    def test_whole_numbers_and_nothing_else(self):
        given = answers(self.sample())
        self.assertIs(type(given), list)
        self.assertEqual({type(number) for number in given}, {int})

    def test_300_calls(self):
        calls = [("start", 1000, 50, 5), put(0, "A")] + [("undo",), ("redo",)] * 149
        self.assertEqual(parted(answers(line(calls))), [[0], [0]] + [[0], [0]] * 149)

    def test_a_list_nearly_as_long_as_may_be(self):
        calls = [("start", 1000, 50, 5)] + [put(k % 8, "rm" * 98 + "|AB") for k in range(145)] + [("size", 0)]
        numbers = line(calls)
        self.assertTrue(29000 < len(numbers) <= 30000)
        self.assertEqual(parted(answers(numbers)), [[0]] * 146 + [[1, 2]])
