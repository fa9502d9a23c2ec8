"""Blocks: lists of rows, each a list of patches.

A patch is three whole numbers: how it is parted (0: not, 1: /, 2: \\), and
the colours of its first and second half. No block is changed once it is made,
so blocks may share their rows.
"""

MOST = 6


def turned_patch(patch):
    """A patch, turned by a quarter as a clock's hand goes."""
    if patch[0] == 0:
        return patch
    if patch[0] == 1:
        return (2, patch[1], patch[2])
    # The half above right comes to lie below right, where / has its second one.
    return (1, patch[2], patch[1])


def mirrored_patch(patch):
    """A patch with left and right changed."""
    if patch[0] == 0:
        return patch
    return (3 - patch[0], patch[1], patch[2])


def turned_column(block, column):
    """The row that a column becomes when its block is turned."""
    return [turned_patch(row[column]) for row in reversed(block)]


def turned(block):
    """A block, turned by a quarter as a clock's hand goes."""
    return [turned_column(block, column) for column in range(len(block[0]))]


def mirrored_row(row):
    """A row with left and right changed."""
    return [mirrored_patch(patch) for patch in reversed(row)]


def mirrored(block):
    """A block with left and right changed."""
    return [mirrored_row(row) for row in block]


def beside(first, second):
    """The second block right of the first, or None where that does not fit."""
    if len(first) != len(second) or len(first[0]) + len(second[0]) > MOST:
        return None
    return [first[place] + second[place] for place in range(len(first))]


def above(first, second):
    """The first block above the second, or None where that does not fit."""
    if len(first[0]) != len(second[0]) or len(first) + len(second) > MOST:
        return None
    return first + second


def times_beside(block, times):
    """A block so many times beside itself, or None where that does not fit."""
    if len(block[0]) * times > MOST:
        return None
    return [row * times for row in block]


def times_above(block, times):
    """A block so many times above itself, or None where that does not fit."""
    if len(block) * times > MOST:
        return None
    return block * times


def eight_ways(block):
    """A block in the eight ways: turned 0 to 3 times, then mirrored and turned 0 to 3 times."""
    found = []
    for beginning in (block, mirrored(block)):
        way = beginning
        for quarter in range(4):
            found.append(way)
            way = turned(way)
    return found


def fixing_bits(block):
    """The ways that leave a block as it is, as bits."""
    bits = 0
    for number, way in enumerate(eight_ways(block)):
        if way == block:
            bits = bits | (1 << number)
    return bits


def patches_of(block):
    """All patches of a block, row by row."""
    found = []
    for row in block:
        found.extend(row)
    return found


def halves_of(block):
    """Of each of the nine colours how many halves of patches a block has."""
    found = [0] * 9
    for patch in patches_of(block):
        for colour in patch[1:]:
            found[colour - 1] += 1
    return found
