"""Many lines of calls with plans, cloth and sewing, against a second telling; and what holds of them by point 11.

The model finds the best plan by recursion, fills strips one by one, keeps on
hand, bought and used apart, and sews by joining sets of patches.
"""

import functools
import random
import unittest

from helper import line, parted, put
from quiltshop.workshop import answers
from test_model import Model, NoDrawing, some_call, some_words

COLOURS = range(1, 10)


class TooWide(Exception):
    pass


@functools.lru_cache(maxsize=None)
def best(block):
    """How many seams, how long together, and the numbers of the best plan of a block (rows of patches)."""
    @functools.lru_cache(maxsize=None)
    def of(top, bottom, left, right):
        patches = {patch for row in block[top:bottom] for patch in row[left:right]}
        if bottom - top == right - left == 1 or len(patches) == 1 and min(patches)[0] == 0:
            return 0, 0, (0,)
        found = []
        for k in range(1, right - left):
            found.append((1, k, bottom - top, of(top, bottom, left, left + k), of(top, bottom, left + k, right)))
        for k in range(1, bottom - top):
            found.append((2, k, right - left, of(top, top + k, left, right), of(top + k, bottom, left, right)))
        return min((1 + one[0] + other[0], length + one[1] + other[1], (way, k) + one[2] + other[2])
                   for way, k, length, one, other in found)
    return of(0, len(block), 0, len(block[0]))


def laid_out(numbers, rows, columns):
    """A plan's pieces (top, left, rows, columns), and its seams (the patches of one part, of the other)."""
    pieces, seams = [], []
    left_over = list(numbers)

    def lay(top, left, high, wide):
        way = left_over.pop(0)
        if way == 0:
            pieces.append((top, left, high, wide))
            return
        k = left_over.pop(0)
        if way == 1:
            parts = (top, left, high, k), (top, left + k, high, wide - k)
        else:
            parts = (top, left, k, wide), (top + k, left, high - k, wide)
        seams.append([cells(*part) for part in parts])
        for part in parts:
            lay(*part)

    lay(0, 0, rows, columns)
    return pieces, seams


def cells(top, left, high, wide):
    return frozenset((row, column) for row in range(top, top + high) for column in range(left, left + wide))


class Sewn:
    """The parts as sets of patches, which seams join."""

    def __init__(self, block):
        self.block = block
        self.pieces, self.seams = laid_out(best(block)[2], len(block), len(block[0]))
        self.lying = [cells(*piece) for piece in self.pieces]
        self.sewn = []

    def can_be_sewn(self, i):
        return all(part in self.lying for part in self.seams[i])

    def sew(self, i):
        one, other = self.seams[i]
        self.lying = [part for part in self.lying if part not in (one, other)] + [one | other]
        self.sewn.append(i)

    def left(self):
        return [i for i in range(len(self.seams)) if i not in self.sewn]


class ShopModel(Model):
    def __init__(self):
        super().__init__()
        self.hand = {c: 0 for c in COLOURS}
        self.bought = {c: 0 for c in COLOURS}
        self.used = {c: 0 for c in COLOURS}
        self.work = None
        self.done = 0

    def answer(self, call):
        if call[0] in ("seam", "next", "piece", "parts", "finish", "stop") and self.work is None:
            return [-16]
        if call[0] == "need" and call[1] not in COLOURS:
            return [-22]
        if call[0] == "begin" and self.work is not None:
            return [-16]
        if call[0] in ("need", "lacks", "begin") and 0 not in self.words:
            return [-2]
        if call[0] == "plan" and call[1] not in self.words:
            return [-2]
        try:
            return super().answer(call)
        except NoDrawing:
            return [-34]
        except TooWide:
            return [-75]

    def do_start(self, wide, unit, edge):
        answer = super().do_start(wide, unit, edge)
        if answer == [0]:
            self.wide, self.unit, self.edge = wide, unit, edge
        return answer

    def rows_of(self, k):
        columns = self.block(k)[1]
        patches = [tuple(patch) for patch in self.patches(k)]
        return tuple(tuple(patches[at:at + columns]) for at in range(0, len(patches), columns))

    def do_plan(self, k):
        numbers = list(best(self.rows_of(k))[2])
        return [len(numbers)] + numbers

    def takes(self, colour):
        block = self.rows_of(0)
        sizes = []
        for top, left, rows, columns in laid_out(best(block)[2], len(block), len(block[0]))[0]:
            if block[top][left] == (0, colour, colour):
                sizes.append(sorted(side * self.unit + self.edge + self.edge for side in (rows, columns)))
        halves = sum(1 for row in block for patch in row if patch[0] and colour in patch[1:])
        square = self.unit + self.edge * 3
        sizes += [[square, square] for _ in range(-(-halves // 2))]
        if any(width > self.wide for _, width in sizes):
            raise TooWide
        total = 0
        for height in {height for height, _ in sizes}:
            strips = []
            for width in sorted((width for other, width in sizes if other == height), reverse=True):
                room = [strip for strip in strips if sum(strip) + width <= self.wide]
                if room:
                    room[0].append(width)
                else:
                    strips.append([width])
            total += height * len(strips)
        return total

    def lacking(self):
        self.block(0)
        return [max(self.takes(c) - self.hand[c], 0) for c in COLOURS]

    def do_need(self, c):
        return [self.takes(c)]

    def do_buy(self, c, n):
        if c not in COLOURS or n not in range(1, 1000001):
            return [-22]
        self.hand[c] += n
        self.bought[c] += n
        return [self.hand[c]]

    def do_cloth(self, c):
        return [self.hand[c], self.bought[c], self.used[c]] if c in COLOURS else [-22]

    def do_lacks(self):
        lacking = self.lacking()
        return [len([more for more in lacking if more])] + lacking

    def do_begin(self):
        if any(self.lacking()):
            return [-35]
        for c in COLOURS:
            self.hand[c] -= self.takes(c)
            self.used[c] += self.takes(c)
        self.work = Sewn(self.rows_of(0))
        return [len(self.work.pieces)]

    def do_seam(self, i):
        if i >= len(self.work.seams):
            return [-2]
        if i in self.work.sewn:
            return [-17]
        if not self.work.can_be_sewn(i):
            return [-61]
        self.work.sew(i)
        return [len(self.work.left())]

    def do_next(self):
        free = [i for i in self.work.left() if self.work.can_be_sewn(i)]
        return [min(free)] if free else [-6]

    def do_piece(self, i):
        if i >= len(self.work.pieces):
            return [-2]
        piece = self.work.pieces[i]
        return [0, *piece, *self.work.block[piece[0]][piece[1]]]

    def do_parts(self):
        return [len(self.work.lying)]

    def do_finish(self):
        if self.work.left():
            return [-61]
        self.work = None
        self.done += 1
        return [self.done]

    def do_stop(self):
        left = len(self.work.left())
        self.work = None
        return [left]

    def do_state(self):
        return [int(self.work is not None), self.done, len(self.past), len(self.future)]


def some_quilt(source):
    """Words of a block of one colour or several, larger than those that other names have."""
    rows, columns = source.randrange(1, 7), source.randrange(1, 7)
    patches = source.choice(["A", "AB", "AAAB", "ABC", ["A", "B", "/AB", "\\CA"], ["/AB", "\\AB"], "AI"])
    words = ""
    for row in range(rows):
        told = [source.choice(patches) for _ in range(columns)]
        row_words = "".join("|" + patch for patch in told[:-1]) + told[-1]
        words += ("-" if row < rows - 1 else "") + row_words
    return words


def enough_bought(source, model):
    """Calls that buy what lacks, or one millimetre too little, and begin."""
    lacking = model.answer(("lacks",))
    short = source.choice([0, 0, 0, 1])
    calls = [("buy", c, lacking[c] - short) for c in COLOURS if lacking[0] > 0 and lacking[c] > short]
    return calls + [("begin",)]


def a_question(source):
    """A call that asks for something, whatever the model stands at."""
    k = source.choice([0, 0, 0, 1, 7, 8, 4294967295])
    c = source.choice([1, 1, 1, 2, 2, 3, 9, 0, 10, 4294967295])
    i = source.choice([0, 1, 2, 3, 8, 35, 36, 4294967295])
    return source.choice([("plan", k), ("need", c), ("need", c), ("cloth", c), ("lacks",), ("piece", i), ("parts",),
                          ("state",), ("next",), ("seam", i)])


def shop_calls(source, model):
    """A call or several that mean something as the model stands."""
    kinds = ["names", "quilt", "quilt", "buy", "begin", "end", "ask", "ask", "ask"]
    kind = source.choice(kinds + (["enough", "enough", "ask", "ask"] if model.work is None else ["sew"] * 15))
    if kind == "names":
        return [some_call(source)]
    if kind == "quilt":
        other = source.choice([some_words(source, 3), "|$h-AB", "$b"])
        return [("put", 0, some_quilt(source) if source.random() < 0.7 else other)]
    if kind == "buy":
        return [("buy", source.randrange(11), source.choice([0, 1, 7, 500, 1000000, 1000001, 4294967295]))]
    if kind == "enough":
        return enough_bought(source, model)
    if kind == "begin":
        return [("begin",)]
    if kind == "end":
        return [(source.choice(["finish", "finish", "finish", "stop"]),)]
    if kind == "ask":
        return [a_question(source)]
    ahead = model.answer(("next",))[0]
    i = ahead if ahead >= 0 and source.random() < 0.7 else source.choice(list(range(36)) + [4294967295])
    return [("seam", i), source.choice([("next",), ("parts",), ("finish",)])]


def some_start(source):
    return ("start", source.choice([200, 201, 250, 400, 1000, 3000]), source.choice([10, 33, 50, 77, 120, 200]),
            source.choice([0, 1, 5, 10, 20]))


class AgainstTheModel(unittest.TestCase):
    def drawn_line(self, seed):
        """A line of calls, and what the model answers."""
        source = random.Random(seed)
        model = ShopModel()
        calls = [some_start(source)]
        expected = [model.answer(calls[0])]
        size = source.choice([30, 150, 300])
        while len(calls) < size:
            some = shop_calls(source, model) if source.random() < 0.998 else [some_start(source)]
            for call in some[:size - len(calls)]:
                calls.append(call)
                expected.append(model.answer(call))
        return calls, expected

    def test_lines_of_calls(self):
        counts = {}
        for seed in range(120):
            calls, expected = self.drawn_line(seed)
            numbers = line([put(*call[1:]) if call[0] == "put" else call for call in calls])
            self.assertEqual(parted(answers(numbers)), expected, f"seed {seed}")
            for call, answer in zip(calls, expected):
                meant = (call[0], answer[0] if answer[0] < 0 else 0)
                counts[meant] = counts.get(meant, 0) + 1
        # That the lines do reach what they are to compare.
        for call, refusals in {
                "plan": (0, -2, -34), "need": (0, -22, -2, -34, -75), "buy": (0, -22), "cloth": (0, -22),
                "lacks": (0, -2, -34, -75), "begin": (0, -16, -2, -34, -75, -35), "seam": (0, -16, -2, -17, -61),
                "next": (0, -16, -6), "piece": (0, -16, -2), "parts": (0, -16), "finish": (0, -16, -61),
                "stop": (0, -16), "state": (0,)}.items():
            for meant in refusals:
                self.assertGreater(counts.get((call, meant), 0), 10, (call, meant))


class WhatHolds(unittest.TestCase):
    """Point 11, asked of the program alone behind each of many calls."""

    ASKED = [("cloth", c) for c in COLOURS] + [("state",), ("parts",), ("next",), ("stop",)]

    def asked_behind(self, calls):
        """What the program answers to these calls, and to those asked behind them."""
        numbers = line([put(*call[1:]) if call[0] == "put" else call for call in calls + self.ASKED])
        found = parted(answers(numbers))
        return found[:len(calls)], found[len(calls):]

    def test_behind_each_call(self):
        sewing = 0
        for seed in range(200, 212):
            source = random.Random(seed)
            model = ShopModel()
            calls = [("start", 1000, 50, 5)]
            model.answer(calls[0])
            done = 0
            while len(calls) < 120:
                for call in shop_calls(source, model):
                    calls.append(call)
                    model.answer(call)
                    given, asked = self.asked_behind(calls)
                    for on_hand, bought, used in asked[:9]:
                        self.assertEqual(bought, on_hand + used)
                        self.assertTrue(0 <= on_hand and 0 <= used)
                    state, parts, ahead, left = asked[9:]
                    if call[0] == "finish" and given[-1][0] > 0:
                        done += 1
                        # It was whole: behind its last seam, or of one piece.
                        self.assertEqual(self.asked_behind(calls[:-1])[1][10:], [[1], [-6], [0]])
                    self.assertEqual(state[1], done)
                    if state[0] == 0:
                        self.assertEqual([parts, ahead, left], [[-16]] * 3)
                    else:
                        sewing += 1
                        self.assertEqual(parts[0], left[0] + 1)
                        self.assertEqual(ahead[0] >= 0, left[0] > 0)
        self.assertGreater(sewing, 200)

    def test_what_is_sewn_stays(self):
        for seed in range(40):
            source = random.Random(seed)
            words = some_quilt(source)
            pieces = [("piece", i) for i in range(36)]
            begun = [("start", 3000, 20, 5), put(0, words), *[("buy", c, 1000000) for c in COLOURS], ("begin",)]
            changes = [some_call(source) for _ in range(100)]
            changes = [put(*call[1:]) if call[0] == "put" else call for call in changes]
            found = parted(answers(line(begun + pieces + changes + pieces + [("parts",), ("stop",)])))
            before, behind = found[12:48], found[148:184]
            self.assertEqual(before, behind)
            count = len([piece for piece in before if piece[0] == 0])
            self.assertEqual(found[11], [count])
            self.assertEqual(found[184:], [[count], [count - 1]])
            # The pieces together are the quilt.
            told = {}
            for _, top, left, rows, columns, *patch in before[:count]:
                for cell in cells(top, left, rows, columns):
                    self.assertNotIn(cell, told)
                    told[cell] = patch
            drawing = parted(answers(line(begun[:2] + [("draw", 0)])))[2]
            patches = [number for cell in sorted(told) for number in told[cell]]
            self.assertEqual(drawing[2:], patches)
