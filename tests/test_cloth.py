"""Cut from strips, and points 6 and 7: need, buy, cloth and lacks."""

from helper import LARGEST, START, Case, ask, different, last, line, parted, plainly, put
from quiltshop.workshop import Workshop, answer_call, answers

NO_COLOURS = (0, 10, 11, 255, LARGEST)


def needs(start, words):
    """What need answers for each of the nine colours, one number each."""
    calls = [("start", *start), put(0, words)] + [("need", c) for c in range(1, 10)]
    return [answer[0] for answer in parted(answers(line(calls)))[2:]]


def need_of_a(start, words):
    """What need answers for colour 1."""
    return needs(start, words)[0]


class NeedRefused(Case):
    def test_no_such_colour(self):
        for c in NO_COLOURS:
            self.told_behind_start((put(0, "A"), 0), (("need", c), -22), (("need", 1), 60))

    def test_first_and_last_colour(self):
        self.told_behind_start((put(0, "|AI"), 0), (("need", 1), 60), (("need", 9), 60), (("need", 5), 0))

    def test_no_such_colour_is_told_first(self):
        for c in NO_COLOURS:
            self.told_behind_start((("need", c), -22), (put(0, "$b"), 0), (("need", c), -22))
            self.told((("start", 200, 200, 20), 0), (put(0, "A"), 0), (("need", c), -22))

    def test_no_quilt(self):
        self.told_behind_start((("need", 1), -2), (put(1, "A"), 0), (("need", 1), -2), (("need", 9), -2))

    def test_a_quilt_that_cannot_be_drawn(self):
        for words in ("$b", "|A-AB", "x6|AA", "y6-AB"):
            self.told_behind_start((put(0, words), 0), (("need", 1), -34), (("need", 9), -34))

    def test_a_piece_as_wide_as_the_cloth_and_one_wider(self):
        self.assertEqual(needs((250, 120, 5), "x2A"), [130] + [0] * 8)
        self.assertEqual(needs((249, 120, 5), "x2A"), [-75] + [0] * 8)
        self.assertEqual(needs((250, 120, 5), "y2A"), [130] + [0] * 8)
        self.assertEqual(needs((249, 120, 5), "y2A"), [-75] + [0] * 8)
        self.assertEqual(needs((200, 200, 0), "A")[0], 200)
        self.assertEqual(needs((200, 199, 1), "A")[0], -75)

    def test_a_square_as_wide_as_the_cloth_and_one_wider(self):
        self.assertEqual(needs((200, 140, 20), "/AB"), [200, 200] + [0] * 7)
        self.assertEqual(needs((200, 141, 20), "/AB"), [-75, -75] + [0] * 7)
        # A patch of one colour takes two edges, not three.
        self.assertEqual(needs((200, 141, 20), "|A/BC"), [181, -75, -75] + [0] * 6)
        self.assertEqual(needs((200, 141, 20), "|A/AC"), [-75, 0, -75] + [0] * 6)

    def test_a_piece_of_that_colour_alone(self):
        self.assertEqual(needs((249, 120, 5), plainly("AA", "BC")), [-75, 130, 130] + [0] * 6)
        self.assertEqual(needs((249, 120, 5), plainly("BC", "AA")), [-75, 130, 130] + [0] * 6)

    def test_the_quilt_alone(self):
        self.told((("start", 249, 120, 5), 0), (put(1, "x2A"), 0), (put(0, "A"), 0), (("need", 1), 130))


class Need(Case):
    def test_one_piece(self):
        self.assertEqual(needs((1000, 50, 5), "A"), [60] + [0] * 8)
        self.assertEqual(needs((1000, 50, 0), "F"), [0] * 5 + [50] + [0] * 3)
        self.assertEqual(needs((3000, 200, 20), "I"), [0] * 8 + [240])

    def test_the_shorter_side_is_the_height(self):
        for words in ("x6A", "y6A"):
            self.assertEqual(need_of_a((1000, 50, 5), words), 60)
        for words in ("x2y3A", "x3y2A"):
            self.assertEqual(need_of_a((1000, 50, 5), words), 110)
        self.assertEqual(need_of_a((1000, 50, 5), "x6y6A"), 310)

    def test_each_height_its_own_strips(self):
        # Of A: one patch, 1 x 2 and 2 x 2, with B between: 60, and 110.
        words = plainly("ABAA", "BBBB", "AABB", "AABB")
        self.assertEqual(need_of_a((1000, 50, 5), words), 170)

    def test_squares(self):
        self.assertEqual(needs((1000, 50, 5), "/AB"), [65, 65] + [0] * 7)
        self.assertEqual(needs((1000, 50, 5), "\\HC"), [0, 0, 65, 0, 0, 0, 0, 65, 0])
        self.assertEqual(needs((1000, 50, 0), "/AB"), [50, 50] + [0] * 7)

    def test_half_as_many_squares_rounded_up(self):
        # No two squares lie in one strip here.
        for count, squares in ((1, 1), (2, 1), (3, 2), (4, 2), (5, 3), (6, 3)):
            words = "/AB" if count == 1 else f"x{count}/AB"
            self.assertEqual(needs((200, 101, 0), words), [101 * squares] * 2 + [0] * 7)
        self.assertEqual(needs((200, 101, 0), "x5y5/AB"), [101 * 13] * 2 + [0] * 7)
        self.assertEqual(needs((200, 101, 0), "x6y6\\AB"), [101 * 18] * 2 + [0] * 7)

    def test_patches_count_that_have_the_colour_in_either_half(self):
        words = plainly(["/AB", "\\CA", "/BC"])
        self.assertEqual(needs((200, 101, 0), words), [101] * 3 + [0] * 6)
        words = plainly(["/AB", "\\CA", "/DA"])
        self.assertEqual(needs((200, 101, 0), words), [202, 101, 101, 101] + [0] * 5)

    def test_a_colour_of_squares_alone(self):
        # Of B and C there's no piece that isn't parted.
        words = plainly(["A", "A", "/BC"])
        self.assertEqual(needs((1000, 50, 5), words), [60, 65, 65] + [0] * 6)

    def test_pieces_and_squares(self):
        # Of another height: each has its strip.
        self.assertEqual(needs((1000, 50, 5), "|A/AB"), [125, 65] + [0] * 7)
        # Without an edge a square is as a patch: both lie in one strip, if it has room.
        self.assertEqual(needs((200, 100, 0), "|A/AB"), [100, 100] + [0] * 7)
        self.assertEqual(needs((200, 101, 0), "|A/AB"), [202, 101] + [0] * 7)

    def test_squares_beside_a_wider_piece_as_high(self):
        # Squares of 40, and a piece of 2 x 6 patches that is 40 high and 80 wide: room for three of them.
        rows = [["A"] * 6, ["A"] * 6]
        for parted_patches, cloth in ((1, 40), (6, 40), (7, 80), (12, 80)):
            patches = ["/AB"] * parted_patches + ["C"] * (12 - parted_patches)
            words = plainly(*rows, patches[:6], patches[6:])
            self.assertEqual(need_of_a((200, 10, 10), words), cloth)

    def test_just_room(self):
        self.assertEqual(needs((200, 100, 0), plainly("AB", "BA"))[:2], [100, 100])
        self.assertEqual(needs((200, 101, 0), plainly("AB", "BA"))[:2], [202, 202])
        self.assertEqual(needs((200, 80, 10), plainly("AB", "BA"))[:2], [100, 100])
        self.assertEqual(needs((200, 81, 10), plainly("AB", "BA"))[:2], [202, 202])

    def test_one_millimetre_too_little_room(self):
        # One patch and two patches wide: 67 and 134.
        for wide, cloth in ((202, 67), (201, 67), (200, 134)):
            self.assertEqual(need_of_a((wide, 67, 0), "|A|Bx2A"), cloth)

    def test_wider_pieces_first(self):
        # As they're told, 2, 3, 3 and 4 patches wide, they'd take three strips.
        words = plainly("AABAAA", "CCCCCC", "AAABCC", "CCCCCC", "AAAABB")
        self.assertEqual(need_of_a((200, 33, 0), words), 66)

    def test_the_first_strip_with_room_not_the_fullest(self):
        # 136, 73, 73, 52, 31, 31: the 52 lies behind the 136, and the last 31 finds no room.
        words = plainly("AAAAAA", "BBBBBB", "AAABAA", "BBBBBB", "AAABAB", "BBBBBA")
        self.assertEqual(need_of_a((200, 21, 5), words), 93)

    def test_the_first_strip_with_room_not_the_last(self):
        # 110, 96, 54, 40, 40, 40: the 54 lies behind the 110, and the last 40 finds no room.
        words = plainly("AAAAAA", "BBBBBB", "AAAAAB", "BBBBBB", "AABABA", "BBBBAB")
        self.assertEqual(need_of_a((200, 14, 13), words), 120)

    def test_the_strip_begun_last_is_not_the_only_one(self):
        # 132, 99, 99, 66: the 66 lies behind the 132.
        words = plainly("AAAABB", "CCCCCC", "AAABCC", "CCCCCC", "AAABAA")
        self.assertEqual(need_of_a((200, 33, 0), words), 66)

    def test_pieces_are_those_of_the_best_plan(self):
        # An upright seam comes first: so one A is a patch, and one 2 x 2.
        words = plainly("AAA", "BAA")
        self.assertEqual(last(put(0, words), ("plan", 0)), [7, 1, 1, 2, 1, 0, 0, 0])
        self.assertEqual(need_of_a((200, 40, 0), words), 120)
        words = plainly("AAA", "BAB")
        # A level seam comes first: so one A is 1 x 3, and one a patch.
        self.assertEqual(last(put(0, words), ("plan", 0)), [10, 2, 1, 0, 1, 1, 0, 1, 1, 0, 0])
        self.assertEqual(need_of_a((200, 50, 0), words), 50)
        self.assertEqual(need_of_a((200, 51, 0), words), 102)

    def test_nothing_is_used_up_by_asking(self):
        calls = [put(0, "A"), ("buy", 1, 60), *[("need", 1)] * 5, ("cloth", 1)]
        self.assertEqual(ask(*calls)[1:], [[60]] + [[60]] * 5 + [[60, 60, 0]])

    def test_300_calls(self):
        words = different(6, 6)
        once = ask(put(0, words), *[("need", c) for c in range(1, 10)])[1:]
        calls = [("need", number % 9 + 1) for number in range(298)]
        self.assertEqual(ask(put(0, words), *calls)[1:], [once[number % 9] for number in range(298)])
        lacking = last(put(0, words), ("lacks",))
        self.assertEqual(ask(put(0, words), *[("lacks",)] * 298)[1:], [lacking] * 298)


class Buy(Case):
    def test_bought_and_on_hand(self):
        self.told_behind_start(
            (("cloth", 1), [0, 0, 0]),
            (("buy", 1, 7), 7),
            (("buy", 1, 5), 12),
            (("buy", 9, 1), 1),
            (("cloth", 1), [12, 12, 0]),
            (("cloth", 9), [1, 1, 0]),
            (("cloth", 2), [0, 0, 0]),
        )

    def test_how_much_at_once(self):
        self.told_behind_start(
            (("buy", 1, 0), -22),
            (("buy", 1, 1), 1),
            (("buy", 1, 1000000), 1000001),
            (("buy", 1, 1000001), -22),
            (("buy", 1, LARGEST), -22),
            (("cloth", 1), [1000001, 1000001, 0]),
        )

    def test_no_such_colour(self):
        for c in NO_COLOURS:
            self.told_behind_start(
                (("buy", c, 5), -22),
                (("cloth", c), -22),
                (("buy", c, 0), -22),
                (("buy", c, LARGEST), -22),
                *[(("cloth", colour), [0, 0, 0]) for colour in range(1, 10)],
            )

    def test_each_colour_by_itself(self):
        pairs = [(("buy", c, 100 + c), 100 + c) for c in range(1, 10)]
        pairs += [(("cloth", c), [100 + c, 100 + c, 0]) for c in range(1, 10)]
        self.told_behind_start(*pairs)

    def test_it_needs_no_quilt_and_is_no_change(self):
        self.told_behind_start((("buy", 1, 5), 5), (("undo",), -6), (("state",), [0, 0, 0, 0]))

    def test_start_again_leaves_no_cloth(self):
        self.told_behind_start((("buy", 1, 5), 5), (START, 0), (("cloth", 1), [0, 0, 0]), (("buy", 1, 5), 5))

    def test_start_refused_leaves_the_cloth(self):
        self.told_behind_start((("buy", 1, 5), 5), (("start", 0, 0, 0), -22), (("cloth", 1), [5, 5, 0]))

    def test_cloth_is_not_undone(self):
        self.told_behind_start(
            (put(0, "A"), 0), (("buy", 1, 5), 5), (("undo",), 0), (("cloth", 1), [5, 5, 0]), (("redo",), 0),
            (("cloth", 1), [5, 5, 0]),
        )


class MostBought(Case):
    """No line is long enough to buy so much: so these go to the object itself."""

    def setUp(self):
        self.shop = Workshop()
        self.call(0, 1000, 50, 5)
        for _ in range(999):
            self.call(15, 2, 1000000)

    def call(self, *numbers):
        return answer_call(self.shop, list(numbers))

    def test_the_most_and_one_more(self):
        self.assertEqual(self.call(15, 2, 1000000), [1000000000])
        self.assertEqual(self.call(15, 2, 1), [-28])
        self.assertEqual(self.call(15, 2, 1000000), [-28])
        self.assertEqual(self.call(16, 2), [1000000000, 1000000000, 0])

    def test_just_short_of_the_most(self):
        self.assertEqual(self.call(15, 2, 999999), [999999999])
        self.assertEqual(self.call(15, 2, 2), [-28])
        self.assertEqual(self.call(16, 2), [999999999, 999999999, 0])
        self.assertEqual(self.call(15, 2, 1), [1000000000])

    def test_of_each_colour(self):
        self.call(15, 2, 1000000)
        self.assertEqual(self.call(15, 1, 1000000), [1000000])
        self.assertEqual(self.call(15, 3, 1), [1])

    def test_not_as_told_comes_first(self):
        self.call(15, 2, 1000000)
        for n in (0, 1000001, LARGEST):
            self.assertEqual(self.call(15, 2, n), [-22])

    def test_what_was_used_was_bought_too(self):
        self.call(15, 2, 1000000)
        self.call(1, 0, 1, 66)
        self.assertEqual(self.call(18), [1])
        self.assertEqual(self.call(16, 2), [999999940, 1000000000, 60])
        self.assertEqual(self.call(15, 2, 1), [-28])
        self.assertEqual(self.call(16, 2), [999999940, 1000000000, 60])


class Lacks(Case):
    def test_refusals(self):
        self.told_behind_start((("lacks",), -2), (put(1, "A"), 0), (("lacks",), -2), (put(0, "$c"), 0),
                               (("lacks",), -34))

    def test_a_piece_of_any_colour_is_too_wide(self):
        for words in ("x2A", "|/ABx2C", plainly("AA", "BC"), plainly("BC", "II")):
            self.told((("start", 249, 120, 5), 0), (put(0, words), 0), (("lacks",), -75))
        self.told((("start", 200, 141, 20), 0), (put(0, "|A/BC"), 0), (("lacks",), -75))
        self.told((("start", 200, 140, 20), 0), (put(0, "|A/BC"), 0), (("lacks",), [3, 180, 200, 200] + [0] * 6))

    def test_how_much_more_of_each(self):
        self.told_behind_start(
            (put(0, "|A|I/IB"), 0),
            (("lacks",), [3, 60, 65] + [0] * 6 + [125]),
            (("buy", 1, 59), 59),
            (("lacks",), [3, 1, 65] + [0] * 6 + [125]),
            (("buy", 1, 1), 60),
            (("lacks",), [2, 0, 65] + [0] * 6 + [125]),
            (("buy", 1, 1), 61),
            (("buy", 9, 100), 100),
            (("buy", 5, 100), 100),
            (("lacks",), [2, 0, 65] + [0] * 6 + [25]),
            (("buy", 9, 500), 600),
            (("buy", 2, 65), 65),
            (("lacks",), [0] * 10),
        )

    def test_what_is_used_is_not_on_hand(self):
        self.told_behind_start(
            (put(0, "A"), 0),
            (("buy", 1, 100), 100),
            (("lacks",), [0] * 10),
            (("begin",), 1),
            (("lacks",), [1, 20] + [0] * 8),
            (("cloth", 1), [40, 100, 60]),
            (("need", 1), 60),
        )

    def test_all_nine(self):
        words = plainly("ABC", "DEF", "GHI")
        self.told_behind_start((put(0, words), 0), (("lacks",), [9] + [60] * 9))
