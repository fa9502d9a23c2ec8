"""Points 8 to 10: begin, seam, next, piece, parts, finish, stop and state."""

from helper import LARGEST, START, Case, ask, different, last, plainly, put
from quiltshop.workshop import Workshop, answer_call

OF_WHAT_IS_SEWN = [("seam", 0), ("next",), ("piece", 0), ("parts",), ("finish",), ("stop",)]
CLOTH = [("buy", c, 100000) for c in range(1, 10)]

# A 2 x 3 quilt: seam 0 is level; seams 1 and 2 are upright, each in a row.
TWO_ROWS = plainly("AAB", "CDD")

# Seam 0 parts the D off; seam 1 the C, seam 2 the B.
A_CHAIN = "|D|C|BA"


def begun(words):
    """The calls that begin to sew a quilt of these words."""
    return [put(0, words), *CLOTH, ("begin",)]


def sewn(words, *calls):
    """What the calls answer behind those that begin to sew a quilt of these words."""
    return ask(*begun(words), *calls)[11:]


class SewingCase(Case):
    def told_of(self, words, *pairs):
        """The pairs, behind the calls that begin to sew a quilt of these words."""
        calls = [call for call, _ in pairs]
        expected = [[answer] if isinstance(answer, int) else answer for _, answer in pairs]
        self.assertEqual(sewn(words, *calls), expected)


class Begin(SewingCase):
    def test_how_many_pieces(self):
        for words, pieces in (("A", 1), ("/AB", 1), ("x6y6A", 1), ("|AB", 2), (TWO_ROWS, 4), (different(6, 6), 36)):
            self.assertEqual(ask(*begun(words))[-1], [pieces])

    def test_cloth_is_used(self):
        self.told_behind_start(
            (put(0, "|A|I/IB"), 0),
            (("buy", 1, 100), 100),
            (("buy", 2, 65), 65),
            (("buy", 3, 7), 7),
            (("buy", 9, 126), 126),
            (("begin",), 3),
            (("cloth", 1), [40, 100, 60]),
            (("cloth", 2), [0, 65, 65]),
            (("cloth", 3), [7, 7, 0]),
            (("cloth", 9), [1, 126, 125]),
            (("buy", 1, 10), 50),
            (("cloth", 1), [50, 110, 60]),
            (("state",), [1, 0, 1, 0]),
        )

    def test_cloth_just_enough_and_one_too_little(self):
        self.told_behind_start(
            (put(0, "|A/AB"), 0),
            (("buy", 1, 124), 124),
            (("buy", 2, 65), 65),
            (("begin",), -35),
            (("cloth", 1), [124, 124, 0]),
            (("cloth", 2), [65, 65, 0]),
            (("state",), [0, 0, 1, 0]),
            (("buy", 1, 1), 125),
            (("begin",), 2),
            (("cloth", 1), [0, 125, 125]),
            (("cloth", 2), [0, 65, 65]),
        )

    def test_one_colour_lacks(self):
        for lacking in range(1, 10):
            pairs = [(("buy", c, 60), 60) for c in range(1, 10) if c != lacking]
            self.told_behind_start(
                (put(0, plainly("ABC", "DEF", "GHI")), 0),
                *pairs,
                (("begin",), -35),
                (("buy", lacking, 59), 59),
                (("begin",), -35),
                (("buy", lacking, 1), 60),
                (("begin",), 9),
            )

    def test_too_wide_and_just_as_wide(self):
        for wide, answer in ((249, -75), (250, 1)):
            self.told((("start", wide, 120, 5), 0), (put(0, "x2A"), 0), (("buy", 1, 130), 130), (("begin",), answer))
        for unit, answer in ((141, -75), (140, 1)):
            self.told((("start", 200, unit, 20), 0), (put(0, "/AB"), 0), (("buy", 1, 200), 200), (("buy", 2, 200), 200),
                      (("begin",), answer))

    def test_which_refusal_comes_first(self):
        self.told(
            (("start", 249, 120, 5), 0),
            (("begin",), -2),
            (put(0, "$b"), 0),
            (("begin",), -34),
            (put(0, "x2A"), 0),
            (("begin",), -75),
            (put(0, "A"), 0),
            (("begin",), -35),
            (("buy", 1, 130), 130),
            (("begin",), 1),
            (("begin",), -16),
            (put(0, "x2A"), 0),
            (("begin",), -16),
            (put(0, "$b"), 0),
            (("begin",), -16),
            (("drop", 0), 0),
            (("begin",), -16),
            (("stop",), 0),
            (("begin",), -2),
        )

    def test_not_drawn_is_told_before_what_lacks(self):
        self.told_behind_start((put(0, "|A-AB"), 0), *[(call, call[2]) for call in CLOTH], (("begin",), -34))

    def test_refused_and_as_it_was(self):
        asked = [("state",), ("parts",), ("next",), ("lacks",), *[("cloth", c) for c in range(1, 10)]]
        ways = {
            -16: [put(0, "|AB"), *CLOTH, ("begin",), ("seam", 0)],
            -2: [*CLOTH, put(1, "A")],
            -34: [*CLOTH, put(0, "$b")],
            -35: [put(0, "|AB"), *CLOTH[1:]],
        }
        for refused, calls in ways.items():
            answers = ask(*calls, *asked, ("begin",), *asked)[len(calls):]
            self.assertEqual(answers[len(asked)], [refused])
            self.assertEqual(answers[:len(asked)], answers[len(asked) + 1:])

    def test_too_wide_and_as_it_was(self):
        asked = [(("state",), [0, 0, 1, 0]), (("parts",), -16), (("lacks",), -75), (("cloth", 1), [0, 0, 0]),
                 (("cloth", 2), [500, 500, 0])]
        self.told((("start", 249, 120, 5), 0), (put(0, plainly("AA", "BC")), 0), (("buy", 2, 500), 500), *asked,
                  (("begin",), -75), *asked)


class NothingIsSewn(Case):
    def test_nothing_yet(self):
        for call in OF_WHAT_IS_SEWN:
            self.told_behind_start((call, -16), (put(0, "A"), 0), (("buy", 1, 60), 60), (call, -16),
                                   (("state",), [0, 0, 1, 0]))

    def test_whatever_is_handed_over(self):
        for i in (0, 1, 35, LARGEST):
            self.told_behind_start((("seam", i), -16), (("piece", i), -16))

    def test_nothing_any_more(self):
        for call in OF_WHAT_IS_SEWN:
            for end in ("finish", "stop"):
                answers = ask(*begun("A"), (end,), call, ("state",))
                self.assertEqual(answers[-3:], [[1 if end == "finish" else 0], [-16], [0, int(end == "finish"), 1, 0]])

    def test_behind_another_start(self):
        for call in OF_WHAT_IS_SEWN:
            answers = ask(*begun("A"), ("finish",), ("begin",), START, ("state",), call)
            self.assertEqual(answers[-5:], [[1], [1], [0], [0, 0, 0, 0], [-16]])

    def test_behind_a_begin_refused(self):
        for call in OF_WHAT_IS_SEWN:
            self.told_behind_start((put(0, "A"), 0), (("begin",), -35), (call, -16))


class Seam(SewingCase):
    def test_seam_by_seam(self):
        self.told_of(
            TWO_ROWS,
            (("parts",), 4),
            (("next",), 1),
            (("seam", 0), -61),
            (("seam", 1), 2),
            (("parts",), 3),
            (("next",), 2),
            (("seam", 0), -61),
            (("seam", 1), -17),
            (("seam", 2), 1),
            (("parts",), 2),
            (("next",), 0),
            (("seam", 2), -17),
            (("seam", 0), 0),
            (("parts",), 1),
            (("next",), -6),
            (("seam", 0), -17),
            (("seam", 3), -2),
            (("state",), [1, 0, 1, 0]),
            (("finish",), 1),
        )

    def test_the_other_row_first(self):
        self.told_of(
            TWO_ROWS,
            (("seam", 2), 2),
            (("next",), 1),
            (("seam", 0), -61),
            (("seam", 1), 1),
            (("next",), 0),
            (("seam", 0), 0),
        )

    def test_one_within_another(self):
        self.told_of(
            A_CHAIN,
            (("next",), 2),
            (("seam", 0), -61),
            (("seam", 1), -61),
            (("seam", 2), 2),
            (("next",), 1),
            (("seam", 0), -61),
            (("seam", 1), 1),
            (("next",), 0),
            (("seam", 0), 0),
            (("next",), -6),
        )

    def test_parts_both_have_seams(self):
        # Seam 0 parts two columns of three patches each: seams 1 and 2, and seams 3 and 4.
        words = plainly("AD", "BE", "CF")
        self.assertEqual(last(put(0, words), ("plan", 0)), [16, 1, 1] + [2, 1, 0, 2, 1, 0, 0] * 2)
        self.told_of(
            words,
            (("next",), 2),
            (("seam", 1), -61),
            (("seam", 3), -61),
            (("seam", 2), 4),
            (("next",), 1),
            (("seam", 3), -61),
            (("seam", 1), 3),
            (("next",), 4),
            (("seam", 0), -61),
            (("seam", 3), -61),
            (("seam", 4), 2),
            (("next",), 3),
            (("seam", 0), -61),
            (("seam", 3), 1),
            (("next",), 0),
            (("seam", 0), 0),
        )

    def test_a_part_with_long_seams(self):
        # Seam 0 is upright; seams 1 and 2, left of it, are two patches long each; seams 3 and 4 lie right of it.
        words = plainly("AAD", "BBE", "CCF")
        self.assertEqual(last(put(0, words), ("plan", 0)), [16, 1, 2] + [2, 1, 0, 2, 1, 0, 0] * 2)
        self.told_of(words, (("next",), 2), (("seam", 1), -61), (("seam", 2), 4), (("seam", 1), 3), (("next",), 4),
                     (("seam", 0), -61), (("seam", 4), 2), (("seam", 0), -61), (("seam", 3), 1), (("seam", 0), 0))

    def test_no_such_seam(self):
        self.told_of("|AB", (("seam", 1), -2), (("seam", LARGEST), -2), (("seam", 0), 0), (("seam", 1), -2))
        self.told_of("A", (("seam", 0), -2), (("seam", LARGEST), -2))
        self.told_of(different(6, 6), (("seam", 35), -2), (("seam", 36), -2), (("seam", 34), 34), (("seam", 34), -17))

    def test_refused_and_as_it_was(self):
        asked = [("state",), ("parts",), ("next",), ("cloth", 1), ("piece", 0), ("piece", 3)]
        for refused, i in ((-2, 3), (-2, LARGEST), (-17, 1), (-61, 0)):
            answers = sewn(TWO_ROWS, ("seam", 1), *asked, ("seam", i), *asked)
            self.assertEqual(answers[7], [refused])
            self.assertEqual(answers[1:7], answers[8:])

    def test_36_patches(self):
        words = different(6, 6)
        pairs = [(("parts",), 36)]
        # Each column from its last seam up, from the last column to the first; then these together.
        columns = [[6 * column + 1 + row for row in range(4, -1, -1)] for column in range(5)] + [[34, 33, 32, 31, 30]]
        order = []
        for column in range(5, -1, -1):
            order += columns[column] + ([6 * column] if column < 5 else [])
        self.assertEqual(sorted(order), list(range(35)))
        for left, i in zip(range(34, -1, -1), order):
            pairs += [(("seam", i), left), (("parts",), left + 1)]
        self.told_of(words, *pairs, (("next",), -6), (("finish",), 1))

    def test_next_goes_all_the_way(self):
        for words in (different(6, 6), TWO_ROWS, A_CHAIN, plainly("AAAB", "BAAA", "AAAB")):
            pieces = ask(*begun(words))[-1][0]
            calls = []
            for left in range(pieces - 1, 0, -1):
                i = sewn(words, *calls, ("next",))[-1][0]
                ahead = [("seam", number) for number in range(i)]
                # None ahead of it can be sewn that isn't.
                for answer in sewn(words, *calls, *ahead)[len(calls):]:
                    self.assertIn(answer, ([-17], [-61]))
                calls.append(("seam", i))
                self.assertEqual(sewn(words, *calls, ("parts",))[-2:], [[left - 1], [left]])
            self.assertEqual(sewn(words, *calls, ("next",), ("finish",))[-2:], [[-6], [1]])


class Piece(SewingCase):
    def test_in_the_plans_order(self):
        self.told_of(
            TWO_ROWS,
            (("piece", 0), [0, 0, 0, 1, 2, 0, 1, 1]),
            (("piece", 1), [0, 0, 2, 1, 1, 0, 2, 2]),
            (("piece", 2), [0, 1, 0, 1, 1, 0, 3, 3]),
            (("piece", 3), [0, 1, 1, 1, 2, 0, 4, 4]),
            (("piece", 4), -2),
            (("piece", LARGEST), -2),
        )

    def test_parted_ones(self):
        self.told_of(
            plainly(["/AB", "C"], ["\\IH", "C"]),
            (("piece", 0), [0, 0, 0, 1, 1, 1, 1, 2]),
            (("piece", 1), [0, 1, 0, 1, 1, 2, 9, 8]),
            (("piece", 2), [0, 0, 1, 2, 1, 0, 3, 3]),
            (("piece", 3), -2),
        )

    def test_the_last_of_36(self):
        self.told_of(
            different(6, 6),
            (("piece", 0), [0, 0, 0, 1, 1, 1, 1, 2]),
            (("piece", 1), [0, 1, 0, 1, 1, 1, 1, 5]),
            (("piece", 35), [0, 5, 5, 1, 1, 2, 3, 2]),
            (("piece", 36), -2),
        )

    def test_sewn_or_not(self):
        pieces = [("piece", i) for i in range(5)]
        answers = sewn(TWO_ROWS, *pieces, ("seam", 1), *pieces, ("seam", 2), ("seam", 0), *pieces)
        self.assertEqual(answers[:5], answers[6:11])
        self.assertEqual(answers[:5], answers[13:])


class OnePiece(SewingCase):
    def test_it_has_no_seam(self):
        for words, piece in (("A", [1, 1, 0, 1, 1]), ("/AB", [1, 1, 1, 1, 2]), ("x6y6C", [6, 6, 0, 3, 3])):
            self.told_of(
                words,
                (("next",), -6),
                (("seam", 0), -2),
                (("parts",), 1),
                (("piece", 0), [0, 0, 0] + piece),
                (("piece", 1), -2),
                (("finish",), 1),
                (("finish",), -16),
            )

    def test_stopped(self):
        self.told_of("A", (("stop",), 0), (("state",), [0, 0, 1, 0]), (("begin",), 1), (("finish",), 1))


class Finish(SewingCase):
    def test_seams_are_left(self):
        self.told_of(
            TWO_ROWS,
            (("finish",), -61),
            (("seam", 1), 2),
            (("finish",), -61),
            (("seam", 2), 1),
            (("finish",), -61),
            (("state",), [1, 0, 1, 0]),
            (("parts",), 2),
            (("seam", 0), 0),
            (("state",), [1, 0, 1, 0]),
            (("finish",), 1),
            (("state",), [0, 1, 1, 0]),
        )

    def test_one_behind_another(self):
        pairs = []
        for number in range(1, 21):
            pairs += [(("begin",), 2), (("seam", 0), 0), (("finish",), number), (("state",), [0, number, 1, 0])]
        self.told_of("|AB", (("stop",), 1), *pairs)

    def test_cloth_stays_used(self):
        self.told_of("A", (("finish",), 1), (("cloth", 1), [99940, 100000, 60]), (("begin",), 1),
                     (("cloth", 1), [99880, 100000, 120]))

    def test_one_stopped_is_not_done(self):
        self.told_of("A", (("finish",), 1), (("begin",), 1), (("stop",), 0), (("state",), [0, 1, 1, 0]),
                     (("begin",), 1), (("finish",), 2))

    def test_modulo(self):
        """No line is long enough for so many: so this goes to the object itself."""
        shop = Workshop()
        for call in ([0, 1000, 50, 5], [1, 0, 1, 65], [15, 1, 1000]):
            answer_call(shop, call)
        for before, told, stands in (
                (2147483646, 2147483647, 2147483647), (2147483647, 0, 2147483648), (2147483648, 1, 2147483649),
                (4294967294, 2147483647, 4294967295), (4294967295, 0, 0), (4294967296, 1, 1)):
            shop.done = before
            self.assertEqual(answer_call(shop, [18]), [1])
            self.assertEqual(answer_call(shop, [23]), [told])
            self.assertEqual(answer_call(shop, [25]), [0, stands, 1, 0])


class Stop(SewingCase):
    def test_how_many_seams_were_left(self):
        for count, left in ((0, 3), (1, 2), (2, 1), (3, 0)):
            calls = [("seam", i) for i in (2, 1, 0)[:count]]
            answers = sewn(TWO_ROWS, *calls, ("stop",), ("state",), ("stop",))
            self.assertEqual(answers[count:], [[left], [0, 0, 1, 0], [-16]])

    def test_cloth_is_gone(self):
        self.told_of("A", (("stop",), 0), (("cloth", 1), [99940, 100000, 60]), (("cloth", 2), [100000, 100000, 0]))

    def test_another_is_begun_with_no_seam_yet(self):
        self.told_of(TWO_ROWS, (("seam", 1), 2), (("seam", 2), 1), (("stop",), 1), (("begin",), 4), (("parts",), 4),
                     (("next",), 1), (("seam", 0), -61), (("seam", 1), 2))


class ChangedMeanwhile(SewingCase):
    CHANGES = (
        [(put(0, "I"), 0)],
        [(put(0, "x6y6I"), 0)],
        [(put(0, "$h"), 0)],
        [(put(1, "x2/EF"), 0)],
        [(put(1, "y2A"), 0)],
        [(("drop", 0), 0)],
        [(("drop", 0), 0), (("drop", 1), 0)],
        [(("undo",), 1)],
        [(("undo",), 1), (("undo",), 0)],
        [(("undo",), 1), (("undo",), 0), (("redo",), 1), (("redo",), 0)],
        [(("undo",), 1), (put(0, "C"), 0)],
    )

    def test_it_is_as_it_was_drawn(self):
        # Five patches in a row: seams 0 to 3, each within the one before.
        for changes in self.CHANGES:
            self.told_behind_start(
                (put(1, "|AB"), 0),
                (put(0, "|$b|/CD$b"), 0),
                *[(call, call[2]) for call in CLOTH],
                (("begin",), 5),
                (("seam", 3), 3),
                *changes,
                (("parts",), 4),
                (("next",), 2),
                (("piece", 0), [0, 0, 0, 1, 1, 0, 1, 1]),
                (("piece", 1), [0, 0, 1, 1, 1, 0, 2, 2]),
                (("piece", 2), [0, 0, 2, 1, 1, 1, 3, 4]),
                (("piece", 3), [0, 0, 3, 1, 1, 0, 1, 1]),
                (("piece", 4), [0, 0, 4, 1, 1, 0, 2, 2]),
                (("piece", 5), -2),
                (("begin",), -16),
                (("seam", 3), -17),
                (("seam", 2), 2),
                (("seam", 1), 1),
                (("finish",), -61),
                (("seam", 0), 0),
                (("cloth", 1), [99940, 100000, 60]),
                (("finish",), 1),
            )

    def test_plan_and_need_speak_of_the_name(self):
        self.told_of(
            "|AB",
            (put(0, "A"), 0),
            (("plan", 0), [1, 0]),
            (("need", 2), 0),
            (("lacks",), [0] * 10),
            (("parts",), 2),
            (("undo",), 1),
            (("plan", 0), [4, 1, 1, 0, 0]),
            (("drop", 0), 0),
            (("plan", 0), -2),
            (("need", 1), -2),
            (("lacks",), -2),
            (("seam", 0), 0),
            (("finish",), 1),
            (("begin",), -2),
        )

    def test_the_next_quilt_is_the_new_one(self):
        self.told_of("|AB", (put(0, "|A|BC"), 0), (("parts",), 2), (("seam", 0), 0), (("finish",), 1), (("begin",), 3),
                     (("piece", 2), [0, 0, 2, 1, 1, 0, 3, 3]))

    def test_sewing_is_not_undone(self):
        self.told_of("|AB", (("seam", 0), 0), (("undo",), 0), (("state",), [1, 0, 0, 1]), (("parts",), 1),
                     (("redo",), 0), (("state",), [1, 0, 1, 0]), (("seam", 0), -17), (("finish",), 1), (("undo",), 0),
                     (("state",), [0, 1, 0, 1]))


class State(Case):
    def test_changes_kept_and_undone(self):
        self.told_behind_start(
            (("state",), [0, 0, 0, 0]),
            (put(0, "A"), 0),
            (("state",), [0, 0, 1, 0]),
            (put(1, "B"), 0),
            (("drop", 0), 0),
            (("state",), [0, 0, 3, 0]),
            (("undo",), 2),
            (("state",), [0, 0, 2, 1]),
            (("undo",), 1),
            (("state",), [0, 0, 1, 2]),
            (("redo",), 1),
            (("state",), [0, 0, 2, 1]),
            (put(1, "C"), 0),
            (("state",), [0, 0, 3, 0]),
            (put(1, "CC"), -71),
            (("state",), [0, 0, 3, 0]),
        )

    def test_33_changes(self):
        pairs = []
        for number in range(1, 34):
            pairs += [(put(0, "A"), 0), (("state",), [0, 0, min(number, 32), 0])]
        for number in range(1, 33):
            pairs += [(("undo",), 32 - number), (("state",), [0, 0, 32 - number, number])]
        self.told_behind_start(*pairs, (("undo",), -6), (("state",), [0, 0, 0, 32]))

    def test_whatever_else_is_asked(self):
        calls = [("plan", 0), ("need", 1), ("buy", 1, 5), ("cloth", 1), ("lacks",), ("begin",), *OF_WHAT_IS_SEWN]
        answers = ask(put(0, "A"), put(0, "B"), ("undo",), *[item for call in calls for item in (call, ("state",))])
        self.assertEqual(answers[4::2], [[0, 0, 1, 1]] * len(calls))
