"""What all eight names stand for at one time."""

from quiltshop.plans import best_plan
from quiltshop.words import block_of, names_in

NAMES = 8


def has_bit(bits, place):
    """Whether a bit is set."""
    return (bits >> place) & 1 == 1


def count_bits(bits):
    """How many of the bits of eight are set."""
    return sum([(bits >> place) & 1 for place in range(NAMES)])


def names_told(entry):
    """The names in an entry's words, as bits."""
    if entry is None:
        return 0
    return names_in(entry[1])


def names_used(told, k):
    """The names that a name uses, by however many, as bits."""
    used = told[k]
    # No chain from one name to another has more links than there are names.
    for link in range(NAMES):
        for name in range(NAMES):
            if has_bit(used, name):
                used = used | told[name]
    return used


def draw_names(entries, used):
    """Each name's block, or None where it can't be drawn."""
    drawings = [None] * NAMES
    # A name uses all that those it uses do, and these too: so whoever uses fewer is drawn before.
    for k in sorted(range(NAMES), key=lambda name: count_bits(used[name])):
        if entries[k] is not None:
            drawings[k] = block_of(entries[k][1], drawings)
    return drawings


class Names:
    """Eight entries, not changed once made: None, or a name's bytes and the tokens read from them."""

    def __init__(self, entries):
        told = [names_told(entry) for entry in entries]
        self.entries = entries
        self.used = [names_used(told, k) for k in range(NAMES)]
        # Drawn and planned when first asked for: many calls may ask for the same, or none at all.
        self.drawings = None
        self.plans = [None] * NAMES

    def stands(self, k):
        """Whether there is such a name and it stands for anything."""
        return k < NAMES and self.entries[k] is not None

    def with_entry(self, k, entry):
        """The names with another entry for one of them."""
        entries = list(self.entries)
        entries[k] = entry
        return Names(entries)

    def uses_itself(self, k):
        """Whether a name uses itself, by however many."""
        return has_bit(self.used[k], k)

    def users_of(self, k):
        """The names that use a name, as bits."""
        bits = 0
        for name in range(NAMES):
            if has_bit(self.used[name], k):
                bits = bits | (1 << name)
        return bits

    def drawing_of(self, k):
        """A name's block, or None where it can't be drawn."""
        if self.drawings is None:
            self.drawings = draw_names(self.entries, self.used)
        return self.drawings[k]

    def plan_of(self, k):
        """The best plan of a name's block, which has to be there."""
        if self.plans[k] is None:
            self.plans[k] = best_plan(self.drawing_of(k))
        return self.plans[k]


def no_names():
    """The names, each of which stands for nothing."""
    return Names([None] * NAMES)
