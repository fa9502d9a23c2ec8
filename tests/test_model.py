"""Many lines of calls, against a second telling of the same promises.

The model draws a patch as the colours of its four quarters (above, right,
below, left), reads words by recursion, and finds who uses whom by walking.
"""

import random
import unittest

from helper import line, put
from quiltshop.workshop import answers

LETTERS = "ABCDEFGHI"
FEW = "ABC"


class NoWords(Exception):
    pass


class NoDrawing(Exception):
    pass


def read(words, at):
    """A block's words as nested tuples, and the place behind them."""
    sign = words[at:at + 1]
    behind = words[at + 1:at + 2]
    if sign and sign in LETTERS:
        return ("patch", sign), at + 1
    if sign and sign in "/\\":
        halves = words[at + 1:at + 3]
        if len(halves) < 2 or halves[0] == halves[1] or any(half not in LETTERS for half in halves):
            raise NoWords
        return ("patch", sign + halves), at + 3
    if sign and sign in "rm":
        inner, end = read(words, at + 1)
        return (sign, inner), end
    if sign and sign in "|-":
        first, end = read(words, at + 1)
        second, end = read(words, end)
        return (sign, first, second), end
    if sign and sign in "xy" and behind and behind in "23456":
        inner, end = read(words, at + 2)
        return (sign, int(behind), inner), end
    if sign == "$" and behind and behind in "abcdefgh":
        return ("$", "abcdefgh".index(behind)), at + 2
    raise NoWords


def tree(words):
    found, end = read(words, 0)
    if end != len(words):
        raise NoWords
    return found


def quarters(text):
    first, second = text[-2:] if len(text) == 3 else (text, text)
    if text[0] == "/":
        return first + second + second + first
    return first + first + second + second


def numbers_of(patch):
    up, right, down, _ = [LETTERS.index(letter) + 1 for letter in patch]
    if up == down == right:
        return [0, up, up]
    return [2, up, down] if up == right else [1, up, down]


def turn(block):
    rows, columns, patches = block
    moved = {}
    for (row, column), patch in patches.items():
        moved[(column, rows - 1 - row)] = patch[3] + patch[:3]
    return columns, rows, moved


def mirror(block):
    rows, columns, patches = block
    moved = {}
    for (row, column), patch in patches.items():
        moved[(row, columns - 1 - column)] = patch[0] + patch[3] + patch[2] + patch[1]
    return rows, columns, moved


def join(first, second, upright):
    side = 0 if upright else 1
    if first[side] != second[side] or first[1 - side] + second[1 - side] > 6:
        raise NoDrawing
    patches = dict(first[2])
    for (row, column), patch in second[2].items():
        patches[(row, column + first[1]) if upright else (row + first[0], column)] = patch
    if upright:
        return first[0], first[1] + second[1], patches
    return first[0] + second[0], first[1], patches


class Model:
    def __init__(self):
        self.words = {}
        self.past = []
        self.future = []

    def draw_tree(self, found):
        kind = found[0]
        if kind == "patch":
            return 1, 1, {(0, 0): quarters(found[1])}
        if kind == "$":
            return self.block(found[1])
        if kind == "r":
            return turn(self.draw_tree(found[1]))
        if kind == "m":
            return mirror(self.draw_tree(found[1]))
        if kind in "|-":
            return join(self.draw_tree(found[1]), self.draw_tree(found[2]), kind == "|")
        block = inner = self.draw_tree(found[2])
        for _ in range(found[1] - 1):
            block = join(block, inner, kind == "x")
        return block

    def block(self, k):
        if k not in self.words:
            raise NoDrawing
        return self.draw_tree(tree(self.words[k]))

    def met(self, words, found):
        for place, sign in enumerate(words):
            if sign == "$":
                k = "abcdefgh".index(words[place + 1])
                if k not in found:
                    found.add(k)
                    self.met(self.words.get(k, ""), found)
        return found

    def users(self, k):
        return {j for j in self.words if k in self.met(self.words[j], set())}

    def change(self, words):
        self.past = (self.past + [self.words])[-32:]
        self.future = []
        self.words = words

    def answer(self, call):
        if call[0] in ("text", "uses", "users", "size", "draw", "halves", "same", "fixing"):
            if any(k not in self.words for k in call[1:]):
                return [-2]
            try:
                return getattr(self, "ask_" + call[0])(*call[1:])
            except NoDrawing:
                return [-34]
        return getattr(self, "do_" + call[0])(*call[1:])

    def do_start(self, wide, unit, edge):
        if wide not in range(200, 3001) or unit not in range(10, 201) or edge not in range(21):
            return [-22]
        self.__init__()
        return [0]

    def do_put(self, k, words):
        if k > 7 or len(words) > 200:
            return [-22]
        try:
            tree(words)
        except NoWords:
            return [-71]
        if k in self.met(words, set()):
            return [-41]
        self.change({**self.words, k: words})
        return [0]

    def do_drop(self, k):
        if k not in self.words:
            return [-2]
        if self.users(k):
            return [-35]
        self.change({j: words for j, words in self.words.items() if j != k})
        return [0]

    def do_undo(self):
        if not self.past:
            return [-6]
        self.future = self.future + [self.words]
        self.words, self.past = self.past[-1], self.past[:-1]
        return [len(self.past)]

    def do_redo(self):
        if not self.future:
            return [-6]
        self.past = self.past + [self.words]
        self.words, self.future = self.future[-1], self.future[:-1]
        return [len(self.future)]

    def ask_text(self, k):
        return [len(self.words[k])] + [ord(sign) for sign in self.words[k]]

    def ask_uses(self, k):
        return [sum(1 << j for j in self.met(self.words[k], set()))]

    def ask_users(self, k):
        return [sum(1 << j for j in self.users(k))]

    def ask_size(self, k):
        return list(self.block(k)[:2])

    def patches(self, k):
        rows, columns, patches = self.block(k)
        return [numbers_of(patches[(row, column)]) for row in range(rows) for column in range(columns)]

    def ask_draw(self, k):
        return self.ask_size(k) + [number for patch in self.patches(k) for number in patch]

    def ask_halves(self, k):
        colours = [colour for patch in self.patches(k) for colour in patch[1:]]
        return [0] + [colours.count(colour) for colour in range(1, 10)]

    def ask_same(self, j, k):
        first, second = self.block(j), self.block(k)
        return [int(first == second)]

    def ask_fixing(self, k):
        block = self.block(k)
        bits = 0
        for way in range(8):
            other = block if way < 4 else mirror(block)
            for _ in range(way % 4):
                other = turn(other)
            bits += (other == block) << way
        return [str(bin(bits)).count("1"), bits]


def some_words(source, depth):
    """Words at random, that mostly fit."""
    kind = source.choice("AAA/\\$$" if depth == 0 else "A/\\$rrmm||--xy")
    if kind == "A":
        return source.choice(FEW)
    if kind in "/\\":
        return kind + "".join(source.sample(FEW, 2))
    if kind == "$":
        return "$" + source.choice("abcdefgh")
    if kind in "rm":
        return kind + some_words(source, depth - 1)
    if kind in "xy":
        return kind + source.choice("223") + some_words(source, depth - 1)
    first = some_words(source, depth - 1)
    second = first if source.random() < 0.4 else some_words(source, depth - 1)
    return kind + first + second


def spoiled(source, words):
    """Words with one sign lost, doubled or changed."""
    at = source.randrange(len(words))
    middle = source.choice(["", words[at] * 2, source.choice("AIJrm|-xy$/\\ah127 ~")])
    return words[:at] + middle + words[at + 1:]


def some_call(source):
    kind = source.choice(["put"] * 9 + ["drop", "undo", "undo", "redo", "redo", "text", "uses", "users", "size"]
                         + ["draw", "draw", "halves", "same", "fixing"])
    k = source.choice([0, 1, 2, 3, 4, 5, 6, 7] * 3 + [8])
    if kind == "put":
        words = some_words(source, source.randrange(5))[:300]
        return ("put", k, spoiled(source, words) if source.random() < 0.1 else words)
    if kind in ("undo", "redo"):
        return (kind,)
    return (kind, source.randrange(9), k) if kind == "same" else (kind, k)


class AgainstTheModel(unittest.TestCase):
    def test_lines_of_calls(self):
        counts = {}
        for seed in range(150):
            source = random.Random(seed)
            calls = [("start", 1000, 50, 5)] + [some_call(source) for _ in range(source.choice([20, 100, 299]))]
            model = Model()
            expected = []
            for call in calls:
                answer = model.answer(call)
                expected += [len(answer)] + answer
                meant = (call[0], answer[0] if answer[0] < 0 else 0)
                counts[meant] = counts.get(meant, 0) + 1
            numbers = line([put(*call[1:]) if call[0] == "put" else call for call in calls])
            self.assertEqual(answers(numbers), expected, f"seed {seed}")
        # That the lines do reach what they are to compare.
        for call in ("draw", "halves", "same", "fixing", "size"):
            for meant in (0, -2, -34):
                self.assertGreater(counts[(call, meant)], 20)
        for meant in (("put", -71), ("put", -41), ("put", -22), ("drop", -35), ("undo", -6), ("redo", -6), ("redo", 0)):
            self.assertGreater(counts[meant], 20)
