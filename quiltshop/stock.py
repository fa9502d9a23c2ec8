"""The stock: of each of nine colours how much cloth there is."""

from quiltshop.refusals import NOT_AS_TOLD, TOO_MUCH

COLOURS = 9
MOST_AT_ONCE = 1000000
MOST_BOUGHT = 1000000000


def is_colour(c):
    """Whether there is a colour c."""
    return 1 <= c <= COLOURS


class Stock:
    """Of each colour what was bought, and what of it was used; all else of it is on hand."""

    def __init__(self):
        self.bought = [0] * COLOURS
        self.used = [0] * COLOURS

    def on_hand(self, c):
        """How much cloth of a colour is on hand."""
        return self.bought[c - 1] - self.used[c - 1]

    def buy(self, c, n):
        """Buy so much more cloth of a colour."""
        if not is_colour(c) or not 1 <= n <= MOST_AT_ONCE:
            return [NOT_AS_TOLD]
        if self.bought[c - 1] + n > MOST_BOUGHT:
            return [TOO_MUCH]
        self.bought[c - 1] = self.bought[c - 1] + n
        return [self.on_hand(c)]

    def cloth(self, c):
        """How much cloth of a colour is on hand, was bought, and was used."""
        if not is_colour(c):
            return [NOT_AS_TOLD]
        return [self.on_hand(c), self.bought[c - 1], self.used[c - 1]]

    def lacking(self, amounts):
        """Of each colour how much more these amounts are than is on hand."""
        return [max(0, amount - self.on_hand(c)) for c, amount in enumerate(amounts, start=1)]

    def use_up(self, amounts):
        """Use so much cloth of each colour."""
        self.used = [used + amount for used, amount in zip(self.used, amounts)]
