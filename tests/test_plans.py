"""Straight seams, and the call plan of point 5."""

import itertools
import random
import unittest

from helper import LARGEST, Case, ask, different, last, plainly, put


def planned(words):
    """What plan answers for words without names."""
    return last(put(0, words), ("plan", 0))


def is_piece(block):
    patches = {patch for row in block for patch in row}
    return len(patches) == 1 and (len(block) == len(block[0]) == 1 or len(patches.pop()) == 1)


def all_plans(block):
    """Every plan of a block: how many seams, how long together, and its numbers."""
    rows, columns = len(block), len(block[0])
    found = [(0, 0, [0])] if is_piece(block) else []
    ways = [(1, k, [row[:k] for row in block], [row[k:] for row in block]) for k in range(1, columns)]
    ways += [(2, k, block[:k], block[k:]) for k in range(1, rows)]
    for way, k, first, second in ways:
        for one, other in itertools.product(all_plans(first), all_plans(second)):
            length = (rows if way == 1 else columns) + one[1] + other[1]
            found.append((1 + one[0] + other[0], length, [way, k] + one[2] + other[2]))
    return found


class Refusals(Case):
    def test_nothing_and_no_such_name(self):
        for k in (1, 7, 8, LARGEST):
            self.told_behind_start((put(0, "$b"), 0), (("plan", k), -2))

    def test_cannot_be_drawn(self):
        for words in ("$b", "|A$b", "|A-AB", "x6|AB", "y4-AB", "rr$h"):
            self.told_behind_start((put(0, words), 0), (("plan", 0), -34), (("text", 0), [len(words), *words.encode()]))

    def test_of_each_name(self):
        for k in range(8):
            self.told_behind_start((put(k, "|AB"), 0), (("plan", k), [4, 1, 1, 0, 0]), (("plan", (k + 1) % 8), -2))


class Plan(Case):
    def test_one_piece(self):
        for words in ("A", "/AB", "\\AB", "x2A", "y2A", "x6y6I", "-|AA|AA", "r|CC"):
            self.assertEqual(planned(words), [1, 0])

    def test_one_seam(self):
        self.assertEqual(planned("|AB"), [4, 1, 1, 0, 0])
        self.assertEqual(planned("-AB"), [4, 2, 1, 0, 0])
        self.assertEqual(planned(plainly("AAABB", "AAABB")), [4, 1, 3, 0, 0])
        self.assertEqual(planned(plainly("AA", "AA", "AA", "AA", "BB")), [4, 2, 4, 0, 0])

    def test_parted_patches_are_pieces_of_their_own(self):
        self.assertEqual(planned("x2/AB"), [4, 1, 1, 0, 0])
        self.assertEqual(planned("y2\\AB"), [4, 2, 1, 0, 0])
        self.assertEqual(planned("y2|A/AB"), [7, 1, 1, 0, 2, 1, 0, 0])

    def test_parts_are_told_one_behind_the_other(self):
        self.assertEqual(planned(plainly("AAB", "CDD")), [10, 2, 1, 1, 2, 0, 0, 1, 1, 0, 0])
        self.assertEqual(planned(plainly("AB", "AC", "AD")), [10, 1, 1, 0, 2, 1, 0, 2, 1, 0, 0])
        self.assertEqual(planned(plainly("AB", "AB", "CC")), [7, 2, 2, 1, 1, 0, 0, 0])

    def test_fewer_seams_before_shorter_ones(self):
        # Parted by upright seams it takes six, which are 10 long together; by these five it's 11.
        block = ("AAAB", "BAAA", "AAAB")
        self.assertEqual(planned(plainly(*block)), [16, 2, 1, 1, 3, 0, 0, 2, 1, 1, 1, 0, 0, 1, 3, 0, 0])
        best = min(all_plans(block))
        self.assertEqual(best[:2], (5, 11))
        self.assertEqual(min(plan[1] for plan in all_plans(block)), 10)

    def test_shorter_ones_before_an_upright_one(self):
        self.assertEqual(planned(plainly("AAA", "AAA", "ABB")), [7, 2, 2, 0, 1, 1, 0, 0])
        self.assertEqual(planned(plainly("AAA", "AAA", "BBA")), [7, 2, 2, 0, 1, 2, 0, 0])

    def test_shorter_ones_before_the_lesser_k(self):
        self.assertEqual(planned(plainly("AAAA", "AAAA", "ABAA")), [10, 1, 2, 2, 2, 0, 1, 1, 0, 0, 0])

    def test_an_upright_seam_before_a_level_one(self):
        self.assertEqual(planned(plainly("AB", "CD")), [10, 1, 1, 2, 1, 0, 0, 2, 1, 0, 0])
        self.assertEqual(planned(plainly("AAA", "AAA", "AAB")), [7, 1, 2, 0, 2, 2, 0, 0])
        self.assertEqual(planned(plainly("AAA", "AAA", "BAA")), [7, 1, 1, 2, 2, 0, 0, 0])
        # Within a part too.
        self.assertEqual(planned(plainly("EEEEE", "EEEEE", "AAAAA", "AAAAA", "AAAAB"))[:6], [10, 2, 2, 0, 1, 4])

    def test_the_lesser_k(self):
        self.assertEqual(planned("|A|BC"), [7, 1, 1, 0, 1, 1, 0, 0])
        self.assertEqual(planned("-A-BC"), [7, 2, 1, 0, 2, 1, 0, 0])
        self.assertEqual(planned("x3/AB"), [7, 1, 1, 0, 1, 1, 0, 0])

    def test_a_name_told_anew(self):
        self.told_behind_start(
            (put(1, "|AB"), 0),
            (put(0, "-$b$b"), 0),
            (("plan", 0), [4, 1, 1, 0, 0]),
            (put(1, "|AA"), 0),
            (("plan", 0), [1, 0]),
            (("plan", 1), [1, 0]),
            (("undo",), 2),
            (("plan", 0), [4, 1, 1, 0, 0]),
            (("redo",), 0),
            (("plan", 0), [1, 0]),
        )

    def test_36_patches_every_one_another(self):
        column = [2, 1, 0] * 5 + [0]
        self.assertEqual(planned(different(6, 6)), [106] + ([1, 1] + column) * 5 + column)

    def test_36_patches_of_two_colours(self):
        column = [2, 1, 0] * 5 + [0]
        self.assertEqual(planned("y3-x3|ABx3|BA"), [106] + ([1, 1] + column) * 5 + column)

    def test_300_calls(self):
        words = different(6, 6)
        once = planned(words)
        self.assertEqual(ask(put(0, words), *[("plan", 0)] * 298)[1:], [once] * 298)
        # The same, planned anew each time.
        calls = [call for _ in range(149) for call in (put(0, words), ("plan", 0))]
        self.assertEqual(ask(*calls)[1::2], [once] * 149)


class AllPlans(unittest.TestCase):
    def held_against_all(self, blocks):
        """Of the best ones the one whose numbers are least is that with upright seams before level, then lesser k."""
        for start in range(0, len(blocks), 149):
            some = blocks[start:start + 149]
            calls = [call for block in some for call in (put(0, plainly(*block)), ("plan", 0))]
            for block, answer in zip(some, ask(*calls)[1::2]):
                numbers = min(all_plans(block))[2]
                self.assertEqual(answer, [len(numbers)] + numbers, block)

    def every_block(self, rows, columns, patches):
        told = itertools.product(patches, repeat=rows * columns)
        return [[row[place:place + columns] for place in range(0, rows * columns, columns)] for row in told]

    def test_every_small_block(self):
        patches = ["A", "B", "/AB"]
        for rows, columns in ((1, 1), (1, 2), (2, 1), (1, 4), (4, 1), (2, 2), (2, 3), (3, 2)):
            self.held_against_all(self.every_block(rows, columns, patches))

    def test_every_block_of_nine_in_two_colours(self):
        self.held_against_all(self.every_block(3, 3, "AB"))

    def test_some_larger_blocks(self):
        source = random.Random(5)
        blocks = []
        for rows, columns in [(3, 3)] * 40 + [(3, 4), (4, 3), (2, 5), (5, 2), (2, 6), (6, 2)] * 12:
            patches = source.choice(["AB", "AAAB", "ABC", ["A", "A", "B", "/AB"]])
            blocks.append([[source.choice(patches) for _ in range(columns)] for _ in range(rows)])
        self.held_against_all(blocks)
