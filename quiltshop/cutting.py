"""Cutting: what is cut of a colour for a plan, and how much cloth that takes.

What is cut is told as its height and its width, in millimetres.
"""

from quiltshop.plans import COLUMNS, ROWS


def side_of(patches, unit, edge):
    """How long the side of so many patches is cut."""
    return patches * unit + 2 * edge


def cut_piece(area, unit, edge):
    """How high and wide a piece is cut that isn't parted."""
    shorter = min(area[ROWS], area[COLUMNS])
    longer = max(area[ROWS], area[COLUMNS])
    return (side_of(shorter, unit, edge), side_of(longer, unit, edge))


def cut_squares(parted, unit, edge):
    """The squares for so many parted patches: one gives halves for two of them."""
    side = unit + 3 * edge
    return [(side, side)] * ((parted + 1) // 2)


def cut_of_colour(pieces, colour, unit, edge):
    """All that is cut of a colour for a plan's pieces."""
    cut = []
    parted = 0
    for area, patch in pieces:
        if colour in patch[1:]:
            if patch[0] == 0:
                cut.append(cut_piece(area, unit, edge))
            else:
                parted = parted + 1
    return cut + cut_squares(parted, unit, edge)


def strip_for(heights, filled, height, width, wide):
    """The number of the first strip that is as high and has room, or of a new one behind all others."""
    for place in range(len(heights)):
        if heights[place] == height and filled[place] + width <= wide:
            return place
    return len(heights)


def strips_high(cut, wide):
    """How high all strips are together from which these are cut."""
    heights = []
    filled = []
    # Those that are like in height and width are all the same: so no order among them counts.
    for height, width in sorted(cut, reverse=True):
        place = strip_for(heights, filled, height, width, wide)
        if place == len(heights):
            heights.append(height)
            filled.append(0)
        filled[place] = filled[place] + width
    return sum(heights)


def cloth_of_colour(pieces, colour, wide, unit, edge):
    """How much cloth of a colour a plan's pieces take, or None where one is wider than the cloth."""
    cut = cut_of_colour(pieces, colour, unit, edge)
    if max([width for height, width in cut], default=0) > wide:
        return None
    return strips_high(cut, wide)
