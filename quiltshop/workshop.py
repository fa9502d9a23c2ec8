"""The workshop: calls on one object, and what each answers."""

from quiltshop.cutting import cloth_of_colour
from quiltshop.designs import Designs
from quiltshop.refusals import IS_SEWING, LACKS_CLOTH, NOT_AS_TOLD, NOT_SEWING, SEAMS_LEFT, TOO_WIDE
from quiltshop.sewing import Sewing
from quiltshop.stock import COLOURS, Stock, is_colour

# The quilt is the drawing of this name.
QUILT = 0

# What finish and state tell of how many were done is told modulo these: 2^31 and 2^32.
DONE_TOLD_BY_FINISH = 2147483648
DONE_TOLD_BY_STATE = 4294967296

# The calls, by their numbers.
START = 0
PUT = 1
DROP = 2
UNDO = 3
REDO = 4
TEXT = 5
USES = 6
USERS = 7
SIZE = 8
DRAW = 9
HALVES = 10
SAME = 11
FIXING = 12
PLAN = 13
NEED = 14
BUY = 15
CLOTH = 16
LACKS = 17
BEGIN = 18
SEAM = 19
NEXT = 20
PIECE = 21
PARTS = 22
FINISH = 23
STOP = 24

# By a call's number: how many whole numbers stand behind it, ahead of its row.
WHOLE_NUMBERS = (3, 1, 1, 0, 0, 1, 1, 1, 1, 1, 1, 2, 1, 1, 1, 2, 1, 0, 0, 1, 0, 1, 0, 0, 0, 0)


def measures_fit(wide, unit, edge):
    """Whether the cloth's width, a patch's side and an edge are as told."""
    return 200 <= wide <= 3000 and 10 <= unit <= 200 and edge <= 20


class Workshop:
    """One object. Each call answers a list: its number, then what else it tells."""

    def __init__(self):
        self.clear_out(0, 0, 0)

    def clear_out(self, wide, unit, edge):
        """Begin anew with these measures."""
        self.wide = wide
        self.unit = unit
        self.edge = edge
        self.designs = Designs()
        self.stock = Stock()
        self.sewing = None
        self.done = 0

    def start(self, wide, unit, edge):
        """Begin anew, if the measures are as told."""
        if not measures_fit(wide, unit, edge):
            return [NOT_AS_TOLD]
        self.clear_out(wide, unit, edge)
        return [0]

    def amount_of(self, c):
        """How much cloth of a colour the quilt takes, or None where a piece is wider than the cloth."""
        pieces = self.designs.names.plan_of(QUILT).pieces
        return cloth_of_colour(pieces, c, self.wide, self.unit, self.edge)

    def amounts(self):
        """Of each colour how much cloth the quilt takes, or None where a piece is wider than the cloth."""
        return [self.amount_of(c) for c in range(1, COLOURS + 1)]

    def need(self, c):
        """How much cloth of a colour the quilt takes."""
        if not is_colour(c):
            return [NOT_AS_TOLD]
        refused = self.designs.refusal(QUILT)
        if refused < 0:
            return [refused]
        amount = self.amount_of(c)
        if amount is None:
            return [TOO_WIDE]
        return [amount]

    def cut_refusal(self):
        """Why the quilt can't be cut, or 0 where it can."""
        refused = self.designs.refusal(QUILT)
        if refused < 0:
            return refused
        if None in self.amounts():
            return TOO_WIDE
        return 0

    def lacks(self):
        """Of how many colours the quilt takes more than is on hand, and of each how much more."""
        refused = self.cut_refusal()
        if refused < 0:
            return [refused]
        lacking = self.stock.lacking(self.amounts())
        return [COLOURS - lacking.count(0)] + lacking

    def begin(self):
        """Cut the quilt, and begin to sew it."""
        if self.sewing is not None:
            return [IS_SEWING]
        refused = self.cut_refusal()
        if refused < 0:
            return [refused]
        amounts = self.amounts()
        if sum(self.stock.lacking(amounts)) > 0:
            return [LACKS_CLOTH]
        self.stock.use_up(amounts)
        self.sewing = Sewing(self.designs.names.plan_of(QUILT))
        return self.sewing.parts()

    def finish(self):
        """Let what is being sewn be done."""
        if self.sewing.seams_left() > 0:
            return [SEAMS_LEFT]
        self.sewing = None
        self.done = self.done + 1
        return [self.done % DONE_TOLD_BY_FINISH]

    def stop(self):
        """Sew no more of what is being sewn."""
        left = self.sewing.seams_left()
        self.sewing = None
        return [left]

    def state(self):
        """Whether one is being sewn, how many were done, and how many changes are kept and undone."""
        being_sewn = 0 if self.sewing is None else 1
        done = self.done % DONE_TOLD_BY_STATE
        return [being_sewn, done, len(self.designs.kept), len(self.designs.undone)]


def answer_change(designs, call):
    """What a call answers that may change what names stand for."""
    number = call[0]
    if number == PUT:
        return designs.put(call[1], call[3:])
    if number == DROP:
        return designs.drop(call[1])
    if number == UNDO:
        return designs.undo()
    return designs.redo()


def answer_words(designs, call):
    """What a call answers that asks for names' words."""
    number = call[0]
    if number == TEXT:
        return designs.text(call[1])
    if number == USES:
        return designs.uses(call[1])
    return designs.users(call[1])


def answer_drawing(designs, call):
    """What a call answers that asks for names' drawings."""
    number = call[0]
    if number == SIZE:
        return designs.size(call[1])
    if number == DRAW:
        return designs.draw(call[1])
    if number == HALVES:
        return designs.halves(call[1])
    if number == SAME:
        return designs.same(call[1], call[2])
    if number == FIXING:
        return designs.fixing(call[1])
    return designs.plan(call[1])


def answer_cloth(shop, call):
    """What a call answers that speaks of cloth, up to when it is cut."""
    number = call[0]
    if number == NEED:
        return shop.need(call[1])
    if number == BUY:
        return shop.stock.buy(call[1], call[2])
    if number == CLOTH:
        return shop.stock.cloth(call[1])
    if number == LACKS:
        return shop.lacks()
    return shop.begin()


def answer_sewing(shop, call):
    """What a call answers that speaks of what is being sewn."""
    if shop.sewing is None:
        return [NOT_SEWING]
    number = call[0]
    if number == SEAM:
        return shop.sewing.seam(call[1])
    if number == NEXT:
        return shop.sewing.next_seam()
    if number == PIECE:
        return shop.sewing.piece(call[1])
    if number == PARTS:
        return shop.sewing.parts()
    if number == FINISH:
        return shop.finish()
    return shop.stop()


def answer_call(shop, call):
    """What one call answers: a list of whole numbers."""
    number = call[0]
    if number == START:
        return shop.start(call[1], call[2], call[3])
    if number <= REDO:
        return answer_change(shop.designs, call)
    if number <= USERS:
        return answer_words(shop.designs, call)
    if number <= PLAN:
        return answer_drawing(shop.designs, call)
    if number <= BEGIN:
        return answer_cloth(shop, call)
    if number <= STOP:
        return answer_sewing(shop, call)
    return shop.state()


def call_length(calls, at):
    """How many numbers the call has that begins at a place."""
    length = 1 + WHOLE_NUMBERS[calls[at]]
    if calls[at] == PUT:
        length = length + 1 + calls[at + length]
    return length


def answers(calls):
    """What the calls of a list answer, on a new object: of each how many numbers, then these."""
    shop = Workshop()
    given = []
    at = 0
    while at < len(calls):
        behind = at + call_length(calls, at)
        answer = answer_call(shop, calls[at:behind])
        given.append(len(answer))
        given.extend(answer)
        at = behind
    return given
