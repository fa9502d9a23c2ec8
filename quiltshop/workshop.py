"""The workshop: calls on one object, and what each answers."""

from quiltshop.blocks import fixing_bits, halves_of, patches_of
from quiltshop.names import NAMES, count_bits, no_names
from quiltshop.words import tokens_of

MOST_BYTES = 200
MOST_CHANGES = 32

# The refusals.
STANDS_FOR_NOTHING = -2
NO_CHANGE = -6
NOT_AS_TOLD = -22
NOT_DRAWN = -34
IS_USED = -35
USES_ITSELF = -41
NO_WORDS = -71

# The calls, by their numbers.
START = 0
PUT = 1
DROP = 2
UNDO = 3
REDO = 4
TEXT = 5
USES = 6
USERS = 7
SIZE = 8
DRAW = 9
HALVES = 10
SAME = 11
FIXING = 12

# By a call's number: how many whole numbers stand behind it, ahead of its row.
WHOLE_NUMBERS = (3, 1, 1, 0, 0, 1, 1, 1, 1, 1, 1, 2, 1)


def measures_fit(wide, unit, edge):
    """Whether the cloth's width, a patch's side and an edge are as told."""
    return 200 <= wide <= 3000 and 10 <= unit <= 200 and edge <= 20


class Workshop:
    """One object. Each call answers a list: its number, then what else it tells."""

    def __init__(self):
        self.clear_out(0, 0, 0)

    def clear_out(self, wide, unit, edge):
        """Begin anew with these measures."""
        self.wide = wide
        self.unit = unit
        self.edge = edge
        self.names = no_names()
        self.kept = []
        self.undone = []

    def start(self, wide, unit, edge):
        """Begin anew, if the measures are as told."""
        if not measures_fit(wide, unit, edge):
            return [NOT_AS_TOLD]
        self.clear_out(wide, unit, edge)
        return [0]

    def change(self, names):
        """Let the names stand for something else, as a change that can be undone."""
        self.kept.append(self.names)
        if len(self.kept) > MOST_CHANGES:
            self.kept.pop(0)
        self.undone = []
        self.names = names

    def put(self, k, words):
        """Let a name stand for words."""
        if k >= NAMES or len(words) > MOST_BYTES:
            return [NOT_AS_TOLD]
        tokens = tokens_of(words)
        if tokens is None:
            return [NO_WORDS]
        names = self.names.with_entry(k, (words, tokens))
        if names.uses_itself(k):
            return [USES_ITSELF]
        self.change(names)
        return [0]

    def drop(self, k):
        """Let a name stand for nothing."""
        if not self.names.stands(k):
            return [STANDS_FOR_NOTHING]
        if self.names.users_of(k) != 0:
            return [IS_USED]
        self.change(self.names.with_entry(k, None))
        return [0]

    def undo(self):
        """Undo the last change."""
        if len(self.kept) == 0:
            return [NO_CHANGE]
        self.undone.append(self.names)
        self.names = self.kept.pop()
        return [len(self.kept)]

    def redo(self):
        """Do the change again that was undone last."""
        if len(self.undone) == 0:
            return [NO_CHANGE]
        self.kept.append(self.names)
        self.names = self.undone.pop()
        return [len(self.undone)]

    def text(self, k):
        """A name's words."""
        if not self.names.stands(k):
            return [STANDS_FOR_NOTHING]
        words = self.names.entries[k][0]
        return [len(words)] + words

    def uses(self, k):
        """The names that a name uses, as bits."""
        if not self.names.stands(k):
            return [STANDS_FOR_NOTHING]
        return [self.names.used[k]]

    def users(self, k):
        """The names that use a name, as bits."""
        if not self.names.stands(k):
            return [STANDS_FOR_NOTHING]
        return [self.names.users_of(k)]

    def refusal(self, k):
        """Why a name has no drawing, or 0 where it has one."""
        if not self.names.stands(k):
            return STANDS_FOR_NOTHING
        if self.names.drawing_of(k) is None:
            return NOT_DRAWN
        return 0

    def size(self, k):
        """How many rows and columns a name's drawing has."""
        refused = self.refusal(k)
        if refused < 0:
            return [refused]
        block = self.names.drawing_of(k)
        return [len(block), len(block[0])]

    def draw(self, k):
        """A name's drawing, patch by patch."""
        refused = self.refusal(k)
        if refused < 0:
            return [refused]
        block = self.names.drawing_of(k)
        answer = [len(block), len(block[0])]
        for patch in patches_of(block):
            answer.extend(patch)
        return answer

    def halves(self, k):
        """Of each colour how many halves of patches a name's drawing has."""
        refused = self.refusal(k)
        if refused < 0:
            return [refused]
        return [0] + halves_of(self.names.drawing_of(k))

    def same(self, j, k):
        """Whether two names are drawn the same."""
        refusals = (self.refusal(j), self.refusal(k))
        if STANDS_FOR_NOTHING in refusals:
            return [STANDS_FOR_NOTHING]
        if NOT_DRAWN in refusals:
            return [NOT_DRAWN]
        if self.names.drawing_of(j) == self.names.drawing_of(k):
            return [1]
        return [0]

    def fixing(self, k):
        """The ways that leave a name's drawing as it is."""
        refused = self.refusal(k)
        if refused < 0:
            return [refused]
        bits = fixing_bits(self.names.drawing_of(k))
        return [count_bits(bits), bits]


def answer_change(shop, call):
    """What a call answers that may change the object."""
    number = call[0]
    if number == START:
        return shop.start(call[1], call[2], call[3])
    if number == PUT:
        return shop.put(call[1], call[3:])
    if number == DROP:
        return shop.drop(call[1])
    if number == UNDO:
        return shop.undo()
    return shop.redo()


def answer_words(shop, call):
    """What a call answers that asks for names' words."""
    number = call[0]
    if number == TEXT:
        return shop.text(call[1])
    if number == USES:
        return shop.uses(call[1])
    return shop.users(call[1])


def answer_drawing(shop, call):
    """What a call answers that asks for names' drawings."""
    number = call[0]
    if number == SIZE:
        return shop.size(call[1])
    if number == DRAW:
        return shop.draw(call[1])
    if number == HALVES:
        return shop.halves(call[1])
    if number == SAME:
        return shop.same(call[1], call[2])
    return shop.fixing(call[1])


def answer_call(shop, call):
    """What one call answers: a list of whole numbers."""
    if call[0] <= REDO:
        return answer_change(shop, call)
    if call[0] <= USERS:
        return answer_words(shop, call)
    return answer_drawing(shop, call)


def call_length(calls, at):
    """How many numbers the call has that begins at a place."""
    length = 1 + WHOLE_NUMBERS[calls[at]]
    if calls[at] == PUT:
        length = length + 1 + calls[at + length]
    return length


def answers(calls):
    """What the calls of a list answer, on a new object: of each how many numbers, then these."""
    shop = Workshop()
    given = []
    at = 0
    while at < len(calls):
        behind = at + call_length(calls, at)
        answer = answer_call(shop, calls[at:behind])
        given.append(len(answer))
        given.extend(answer)
        at = behind
    return given
