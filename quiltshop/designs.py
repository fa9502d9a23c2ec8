"""Designs: what the names stand for, each change of that, and what they draw."""

from quiltshop.blocks import fixing_bits, halves_of, patches_of
from quiltshop.names import NAMES, count_bits, no_names
from quiltshop.refusals import IS_USED, NO_CHANGE, NO_WORDS, NOT_AS_TOLD, NOT_DRAWN, STANDS_FOR_NOTHING, USES_ITSELF
from quiltshop.words import tokens_of

MOST_BYTES = 200
MOST_CHANGES = 32


class Designs:
    """All names, and the changes that are kept and undone. Each call answers its number, then what else it tells."""

    def __init__(self):
        self.names = no_names()
        self.kept = []
        self.undone = []

    def change(self, names):
        """Let the names stand for something else, as a change that can be undone."""
        self.kept.append(self.names)
        if len(self.kept) > MOST_CHANGES:
            self.kept.pop(0)
        self.undone = []
        self.names = names

    def put(self, k, words):
        """Let a name stand for words."""
        if k >= NAMES or len(words) > MOST_BYTES:
            return [NOT_AS_TOLD]
        tokens = tokens_of(words)
        if tokens is None:
            return [NO_WORDS]
        names = self.names.with_entry(k, (words, tokens))
        if names.uses_itself(k):
            return [USES_ITSELF]
        self.change(names)
        return [0]

    def drop(self, k):
        """Let a name stand for nothing."""
        if not self.names.stands(k):
            return [STANDS_FOR_NOTHING]
        if self.names.users_of(k) != 0:
            return [IS_USED]
        self.change(self.names.with_entry(k, None))
        return [0]

    def undo(self):
        """Undo the last change."""
        if len(self.kept) == 0:
            return [NO_CHANGE]
        self.undone.append(self.names)
        self.names = self.kept.pop()
        return [len(self.kept)]

    def redo(self):
        """Do the change again that was undone last."""
        if len(self.undone) == 0:
            return [NO_CHANGE]
        self.kept.append(self.names)
        self.names = self.undone.pop()
        return [len(self.undone)]

    def text(self, k):
        """A name's words."""
        if not self.names.stands(k):
            return [STANDS_FOR_NOTHING]
        words = self.names.entries[k][0]
        return [len(words)] + words

    def uses(self, k):
        """The names that a name uses, as bits."""
        if not self.names.stands(k):
            return [STANDS_FOR_NOTHING]
        return [self.names.used[k]]

    def users(self, k):
        """The names that use a name, as bits."""
        if not self.names.stands(k):
            return [STANDS_FOR_NOTHING]
        return [self.names.users_of(k)]

    def refusal(self, k):
        """Why a name has no drawing, or 0 where it has one."""
        if not self.names.stands(k):
            return STANDS_FOR_NOTHING
        if self.names.drawing_of(k) is None:
            return NOT_DRAWN
        return 0

    def size(self, k):
        """How many rows and columns a name's drawing has."""
        refused = self.refusal(k)
        if refused < 0:
            return [refused]
        block = self.names.drawing_of(k)
        return [len(block), len(block[0])]

    def draw(self, k):
        """A name's drawing, patch by patch."""
        refused = self.refusal(k)
        if refused < 0:
            return [refused]
        block = self.names.drawing_of(k)
        answer = [len(block), len(block[0])]
        for patch in patches_of(block):
            answer.extend(patch)
        return answer

    def halves(self, k):
        """Of each colour how many halves of patches a name's drawing has."""
        refused = self.refusal(k)
        if refused < 0:
            return [refused]
        return [0] + halves_of(self.names.drawing_of(k))

    def same(self, j, k):
        """Whether two names are drawn the same."""
        refusals = (self.refusal(j), self.refusal(k))
        if STANDS_FOR_NOTHING in refusals:
            return [STANDS_FOR_NOTHING]
        if NOT_DRAWN in refusals:
            return [NOT_DRAWN]
        if self.names.drawing_of(j) == self.names.drawing_of(k):
            return [1]
        return [0]

    def fixing(self, k):
        """The ways that leave a name's drawing as it is."""
        refused = self.refusal(k)
        if refused < 0:
            return [refused]
        bits = fixing_bits(self.names.drawing_of(k))
        return [count_bits(bits), bits]

    def plan(self, k):
        """The best plan of a name's drawing."""
        refused = self.refusal(k)
        if refused < 0:
            return [refused]
        numbers = self.names.plan_of(k).numbers
        return [len(numbers)] + numbers
