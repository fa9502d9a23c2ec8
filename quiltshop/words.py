"""Words: what the bytes of a text tell, and the block that they draw.

Words are read into tokens, from left to right. A token is what it tells, a
value, and how many bytes it has.
"""

from quiltshop.blocks import above, beside, mirrored, times_above, times_beside, turned

DIGIT_0 = 48
DIGIT_2 = 50
DIGIT_6 = 54
UPPER_A = 65
UPPER_I = 73
LOWER_A = 97
LOWER_H = 104
DOLLAR = 36

# By their bytes: r, m, | and -; then / and \; then x and y.
PLAIN_SIGNS = {114: "turned", 109: "mirrored", 124: "beside", 45: "above"}
PARTING_SIGNS = {47: 1, 92: 2}
TIMES_SIGNS = {120: "times beside", 121: "times above"}

# How many blocks' words have to stand behind a token.
BLOCKS_BEHIND = {
    "patch": 0,
    "name": 0,
    "turned": 1,
    "mirrored": 1,
    "times beside": 1,
    "times above": 1,
    "beside": 2,
    "above": 2,
}


def colour_of(byte):
    """The colour that a byte tells, or 0 where it tells none."""
    if UPPER_A <= byte <= UPPER_I:
        return byte - UPPER_A + 1
    return 0


def parted_token(parting, letters):
    """The token of a parted patch, or None where these letters tell none."""
    if len(letters) < 2:
        return None
    first = colour_of(letters[0])
    second = colour_of(letters[1])
    if first == 0 or second == 0 or first == second:
        return None
    return ("patch", (parting, first, second), 3)


def two_byte_token(sign, behind):
    """The token of x or y and a digit, or of $ and a letter, or None where it is neither."""
    if sign in TIMES_SIGNS and DIGIT_2 <= behind <= DIGIT_6:
        return (TIMES_SIGNS[sign], behind - DIGIT_0, 2)
    if sign == DOLLAR and LOWER_A <= behind <= LOWER_H:
        return ("name", behind - LOWER_A, 2)
    return None


def token_at(words, at):
    """The token that begins at a place, or None where none does."""
    sign = words[at]
    colour = colour_of(sign)
    if colour > 0:
        return ("patch", (0, colour, colour), 1)
    if sign in PLAIN_SIGNS:
        return (PLAIN_SIGNS[sign], 0, 1)
    if sign in PARTING_SIGNS:
        return parted_token(PARTING_SIGNS[sign], words[at + 1:at + 3])
    if at + 1 < len(words):
        return two_byte_token(sign, words[at + 1])
    return None


def tokens_of(words):
    """The tokens of a block's words, or None where the bytes are no block's words."""
    tokens = []
    wanted = 1
    at = 0
    while at < len(words):
        token = token_at(words, at)
        if wanted == 0 or token is None:
            return None
        tokens.append(token)
        wanted = wanted - 1 + BLOCKS_BEHIND[token[0]]
        at = at + token[2]
    if wanted > 0:
        return None
    return tokens


def names_in(tokens):
    """The names that stand in words, as bits."""
    bits = 0
    for token in tokens:
        if token[0] == "name":
            bits = bits | (1 << token[1])
    return bits


def block_of_token(token, waiting, drawings):
    """The block that a token tells, or None; it takes the blocks behind it from those waiting."""
    kind = token[0]
    if kind == "patch":
        return [[token[1]]]
    if kind == "name":
        return drawings[token[1]]
    first = waiting.pop()
    if kind == "turned":
        return turned(first)
    if kind == "mirrored":
        return mirrored(first)
    if kind == "times beside":
        return times_beside(first, token[1])
    if kind == "times above":
        return times_above(first, token[1])
    second = waiting.pop()
    if kind == "beside":
        return beside(first, second)
    return above(first, second)


def block_of(tokens, drawings):
    """The block that tokens draw, or None where they can't be drawn.

    Drawings holds each name's block, or None where it has none.
    """
    waiting = []
    # Backwards, since a token's blocks stand behind it: so no depth of nesting needs a recursion.
    for token in reversed(tokens):
        block = block_of_token(token, waiting, drawings)
        if block is None:
            return None
        waiting.append(block)
    return waiting.pop()
