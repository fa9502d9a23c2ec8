"""Sewing: one quilt, seam by seam, as it was planned when it was begun."""

from quiltshop.refusals import IS_SEWN, NO_SEAM_LEFT, NO_SUCH_PIECE, NO_SUCH_SEAM, NOT_WHOLE


class Sewing:
    """What is being sewn: the pieces and seams of a plan, and of each seam whether it's sewn."""

    def __init__(self, plan):
        self.pieces = plan.pieces
        self.ends = plan.ends
        self.sewn = [False] * len(plan.ends)

    def seams_left(self):
        """How many seams aren't sewn yet."""
        return self.sewn.count(False)

    def parts_are_whole(self, i):
        """Whether all seams of both parts of a seam are sewn."""
        # The seams of a seam's parts are numbered right behind it.
        return all(self.sewn[i + 1:self.ends[i]])

    def seam(self, i):
        """Sew a seam."""
        if i >= len(self.sewn):
            return [NO_SUCH_SEAM]
        if self.sewn[i]:
            return [IS_SEWN]
        if not self.parts_are_whole(i):
            return [NOT_WHOLE]
        self.sewn[i] = True
        return [self.seams_left()]

    def next_seam(self):
        """The first seam that can be sewn and isn't."""
        for i in range(len(self.sewn)):
            if not self.sewn[i] and self.parts_are_whole(i):
                return [i]
        return [NO_SEAM_LEFT]

    def piece(self, i):
        """Where a piece lies, how large it is, and its first patch."""
        if i >= len(self.pieces):
            return [NO_SUCH_PIECE]
        area = self.pieces[i][0]
        patch = self.pieces[i][1]
        return [0] + list(area) + list(patch)

    def parts(self):
        """In how many parts it lies there."""
        # Each seam that's sewn makes one part of two.
        return [len(self.pieces) - self.sewn.count(True)]
