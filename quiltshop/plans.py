"""Plans: how a block is parted by straight seams into pieces.

An area is a rectangle of a block's patches: its first row, its first column,
how many rows and how many columns it has.
"""

TOP = 0
LEFT = 1
ROWS = 2
COLUMNS = 3

# Which way an area's own seam goes, as a plan tells it.
NO_SEAM = 0
UPRIGHT = 1
LEVEL = 2


def areas_of(block):
    """All areas of a block, each one behind all those that lie in it."""
    found = []
    for rows in range(1, len(block) + 1):
        for columns in range(1, len(block[0]) + 1):
            for top in range(len(block) - rows + 1):
                for left in range(len(block[0]) - columns + 1):
                    found.append((top, left, rows, columns))
    return found


def first_patch(block, area):
    """The patch above left in an area."""
    return block[area[TOP]][area[LEFT]]


def is_piece(block, area):
    """Whether an area is one patch, or all of one same colour, none parted."""
    if area[ROWS] == 1 and area[COLUMNS] == 1:
        return True
    patch = first_patch(block, area)
    if patch[0] != 0:
        return False
    for row in block[area[TOP]:area[TOP] + area[ROWS]]:
        if row[area[LEFT]:area[LEFT] + area[COLUMNS]] != [patch] * area[COLUMNS]:
            return False
    return True


def seams_across(area):
    """All seams that may part an area: which way, and behind how many columns or rows."""
    upright = [(UPRIGHT, k) for k in range(1, area[COLUMNS])]
    level = [(LEVEL, k) for k in range(1, area[ROWS])]
    return upright + level


def seam_length(area, way):
    """How long a seam is that parts an area."""
    if way == UPRIGHT:
        return area[ROWS]
    return area[COLUMNS]


def first_part(area, way, k):
    """The part of an area that lies left of a seam, or above it."""
    if way == UPRIGHT:
        return (area[TOP], area[LEFT], area[ROWS], k)
    return (area[TOP], area[LEFT], k, area[COLUMNS])


def second_part(area, way, k):
    """The part of an area that lies right of a seam, or below it."""
    if way == UPRIGHT:
        return (area[TOP], area[LEFT] + k, area[ROWS], area[COLUMNS] - k)
    return (area[TOP] + k, area[LEFT], area[ROWS] - k, area[COLUMNS])


def choice_with(area, way, k, chosen):
    """The choice to part an area by this seam, and its parts as they are chosen."""
    first = chosen[first_part(area, way, k)]
    second = chosen[second_part(area, way, k)]
    seams = 1 + first[0] + second[0]
    length = seam_length(area, way) + first[1] + second[1]
    return (seams, length, way, k)


def best_choices(block):
    """Of each area of a block its best choice.

    A choice is how many seams there are in all, how long they are together,
    and which way the area's own seam goes, behind how many columns or rows.
    """
    chosen = {}
    for area in areas_of(block):
        if is_piece(block, area):
            chosen[area] = (0, 0, NO_SEAM, 0)
        else:
            # The numbers of a choice stand in the order in which they count, and the least of each is best.
            chosen[area] = min([choice_with(area, way, k, chosen) for way, k in seams_across(area)])
    return chosen


class Plan:
    """A plan: its numbers, its pieces, and of each seam the first one behind it and its parts' seams.

    A piece is its area and its first patch.
    """

    def __init__(self):
        self.numbers = []
        self.pieces = []
        self.ends = []

    def add_piece(self, area, patch):
        """Tell a piece next."""
        self.numbers.append(NO_SEAM)
        self.pieces.append((area, patch))

    def add_seam(self, way, k, seams):
        """Tell a seam next, with how many seams there are of it and its parts together."""
        self.numbers.extend([way, k])
        self.ends.append(len(self.ends) + seams)


def best_plan(block):
    """A block's best plan."""
    chosen = best_choices(block)
    plan = Plan()
    waiting = [(0, 0, len(block), len(block[0]))]
    while len(waiting) > 0:
        area = waiting.pop()
        choice = chosen[area]
        way = choice[2]
        k = choice[3]
        if way == NO_SEAM:
            plan.add_piece(area, first_patch(block, area))
        else:
            plan.add_seam(way, k, choice[0])
            # The first part is told first, so it has to wait on top.
            waiting.append(second_part(area, way, k))
            waiting.append(first_part(area, way, k))
    return plan
