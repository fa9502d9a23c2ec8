"""How the tests write calls down, and compare what is answered."""

import unittest

from quiltshop.workshop import answers

NUMBERS = {
    "start": 0, "drop": 2, "undo": 3, "redo": 4, "text": 5, "uses": 6, "users": 7,
    "size": 8, "draw": 9, "halves": 10, "same": 11, "fixing": 12, "plan": 13, "need": 14, "buy": 15,
    "cloth": 16, "lacks": 17, "begin": 18, "seam": 19, "next": 20, "piece": 21, "parts": 22, "finish": 23,
    "stop": 24, "state": 25,
}
LARGEST = 4294967295
START = ("start", 1000, 50, 5)


def put(k, words):
    """A call of put, with its words as a text or as a list of bytes."""
    row = [ord(sign) for sign in words] if isinstance(words, str) else list(words)
    return [1, k, len(row)] + row


def joined(sign, told):
    """Words with a sign ahead of all but the last of them."""
    return "".join(sign + words for words in told[:-1]) + told[-1]


def plainly(*rows):
    """A block's words, told plainly; a row is a text of letters, or a list of patches' words."""
    return joined("-", [joined("|", list(row)) for row in rows])


def different(rows, columns):
    """A block's words of which every patch is another one, a parted one."""
    patches = [sign + first + second for first in "ABCDEFGHI" for second in "ABCDEFGHI" if first != second
               for sign in "/\\"]
    return plainly(*[patches[columns * row:columns * (row + 1)] for row in range(rows)])


def line(calls):
    """The list of whole numbers that holds these calls."""
    numbers = []
    for call in calls:
        numbers += call if isinstance(call, list) else [NUMBERS[call[0]], *call[1:]]
    return numbers


def parted(given):
    """What is given back, one list for each call."""
    found, at = [], 0
    while at < len(given):
        found.append(given[at + 1:at + 1 + given[at]])
        at += 1 + given[at]
    return found


def ask(*calls):
    """What each of the calls answers behind a start."""
    return parted(answers(line((START,) + calls)))[1:]


def last(*calls):
    """What the last of the calls answers behind a start."""
    return ask(*calls)[-1]


def drawn(words):
    """What draw answers for words without names."""
    return last(put(0, words), ("draw", 0))


class Case(unittest.TestCase):
    """A test that compares whole lists."""

    def told(self, *pairs):
        """Each pair is a call and what it answers: a number, or a list of them."""
        expected = []
        for _, answer in pairs:
            answer = [answer] if isinstance(answer, int) else answer
            expected += [len(answer)] + answer
        self.assertEqual(answers(line([call for call, _ in pairs])), expected)

    def told_behind_start(self, *pairs):
        """The same, with a start ahead that is answered 0."""
        self.told((START, 0), *pairs)
