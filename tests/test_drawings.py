"""Point 5: size, draw, halves, same and fixing; what words draw, and what fits."""

from helper import LARGEST, Case, ask, drawn, last, put

A = [0, 1, 1]
B = [0, 2, 2]
C = [0, 3, 3]
D = [0, 4, 4]
E = [0, 5, 5]
F = [0, 6, 6]


class Refusals(Case):
    CALLS = ("size", "draw", "halves", "fixing")

    def test_nothing_and_no_such_name(self):
        for call in self.CALLS:
            for k in (1, 7, 8, LARGEST):
                self.told_behind_start((put(0, "$b"), 0), ((call, k), -2))

    def test_cannot_be_drawn(self):
        for words in ("$b", "|A$b", "|A-AB", "-A|AB", "x6|AB", "y4-AB", "rr$h", "x2$b"):
            for call in self.CALLS:
                self.told_behind_start((put(0, words), 0), ((call, 0), -34))

    def test_refused_and_as_it_was(self):
        for call in self.CALLS:
            self.told_behind_start(
                (put(1, "A"), 0),
                (put(0, "|$b$c"), 0),
                ((call, 0), -34),
                ((call, 2), -2),
                (("text", 0), [5] + list(b"|$b$c")),
                (put(2, "B"), 0),
                (("draw", 0), [1, 2] + A + B),
                (("undo",), 2),
                ((call, 0), -34),
            )

    def test_same_of_both_names(self):
        self.told_behind_start(
            (put(0, "A"), 0),
            (put(1, "|A-AB"), 0),
            (("same", 0, 2), -2),
            (("same", 2, 0), -2),
            (("same", 2, 2), -2),
            (("same", 1, 2), -2),
            (("same", 2, 1), -2),
            (("same", 8, 1), -2),
            (("same", 1, 8), -2),
            (("same", LARGEST, 0), -2),
            (("same", 0, LARGEST), -2),
            (("same", 0, 1), -34),
            (("same", 1, 0), -34),
            (("same", 1, 1), -34),
            (("same", 0, 0), 1),
        )


class Draw(Case):
    def test_patches(self):
        for colour, letter in enumerate("ABCDEFGHI", start=1):
            self.assertEqual(drawn(letter), [1, 1, 0, colour, colour])
        self.assertEqual(drawn("/AB"), [1, 1, 1, 1, 2])
        self.assertEqual(drawn("/IC"), [1, 1, 1, 9, 3])
        self.assertEqual(drawn("\\AB"), [1, 1, 2, 1, 2])
        self.assertEqual(drawn("\\HA"), [1, 1, 2, 8, 1])

    def test_a_patch_turned(self):
        self.assertEqual(drawn("rA"), [1, 1] + A)
        self.assertEqual(drawn("r/AB"), [1, 1, 2, 1, 2])
        self.assertEqual(drawn("rr/AB"), [1, 1, 1, 2, 1])
        self.assertEqual(drawn("rrr/AB"), [1, 1, 2, 2, 1])
        self.assertEqual(drawn("rrrr/AB"), [1, 1, 1, 1, 2])
        self.assertEqual(drawn("r\\AB"), [1, 1, 1, 2, 1])

    def test_a_patch_mirrored(self):
        self.assertEqual(drawn("mA"), [1, 1] + A)
        self.assertEqual(drawn("m/AB"), [1, 1, 2, 1, 2])
        self.assertEqual(drawn("m\\AB"), [1, 1, 1, 1, 2])
        self.assertEqual(drawn("rm/AB"), [1, 1, 1, 2, 1])
        self.assertEqual(drawn("mr/AB"), [1, 1, 1, 1, 2])

    def test_beside_and_above(self):
        self.assertEqual(drawn("|AB"), [1, 2] + A + B)
        self.assertEqual(drawn("-AB"), [2, 1] + A + B)
        self.assertEqual(drawn("|-AB-CD"), [2, 2] + A + C + B + D)
        self.assertEqual(drawn("-|AB|CD"), [2, 2] + A + B + C + D)
        self.assertEqual(drawn("||ABC"), [1, 3] + A + B + C)
        self.assertEqual(drawn("|A|BC"), [1, 3] + A + B + C)

    def test_a_block_turned(self):
        self.assertEqual(drawn("r|AB"), [2, 1] + A + B)
        self.assertEqual(drawn("r-AB"), [1, 2] + B + A)
        self.assertEqual(drawn("r-|A|BC|D|EF"), [3, 2] + D + A + E + B + F + C)
        self.assertEqual(drawn("r|A/BC"), [2, 1] + A + [2, 2, 3])

    def test_a_block_mirrored(self):
        self.assertEqual(drawn("m|AB"), [1, 2] + B + A)
        self.assertEqual(drawn("m-AB"), [2, 1] + A + B)
        self.assertEqual(drawn("m-|A|BC|D|EF"), [2, 3] + C + B + A + F + E + D)
        self.assertEqual(drawn("m|A/BC"), [1, 2] + [2, 2, 3] + A)

    def test_so_many_times(self):
        self.assertEqual(drawn("x2A"), [1, 2] + A * 2)
        self.assertEqual(drawn("x6/AB"), [1, 6] + [1, 1, 2] * 6)
        self.assertEqual(drawn("y3A"), [3, 1] + A * 3)
        self.assertEqual(drawn("x3|AB"), [1, 6] + (A + B) * 3)
        self.assertEqual(drawn("x2-AB"), [2, 2] + A * 2 + B * 2)
        self.assertEqual(drawn("y2-AB"), [4, 1] + (A + B) * 2)
        self.assertEqual(drawn("y2|AB"), [2, 2] + (A + B) * 2)
        self.assertEqual(drawn("x2rx2-AB"), [2, 4] + (B + A) * 4)

    def test_nested(self):
        self.assertEqual(drawn("-|A\\BCr-/DEF"), [2, 2] + A + [2, 2, 3] + F + [2, 4, 5])

    def test_names_in_their_place(self):
        self.told_behind_start(
            (put(7, "|AB"), 0),
            (put(1, "-$hr$h"), 0),
            (put(2, "-$hm$h"), 0),
            (put(0, "-$cr$c"), 0),
            (("draw", 2), [2, 2] + A + B + B + A),
            (("draw", 0), [4, 2] + A + B + B + A + B + A + A + B),
            (("draw", 1), -34),
        )

    def test_told_anew_changes_those_alone_that_use_it(self):
        asked = [("draw", k) for k in range(6)]
        before = [put(0, "|$b$c"), put(1, "A"), put(2, "$d"), put(3, "B"), put(4, "x2$d"), put(5, "C")]
        first = ask(*before, *asked)[6:]
        self.assertEqual(first, [[1, 2] + A + B, [1, 1] + A, [1, 1] + B, [1, 1] + B, [1, 2] + B + B, [1, 1] + C])
        second = ask(*before, *asked, put(1, "/DE"), *asked)[13:]
        self.assertEqual(second, [[1, 2, 1, 4, 5] + B, [1, 1, 1, 4, 5]] + first[2:])
        third = ask(*before, *asked, put(3, "-EE"), *asked)[13:]
        tall = [2, 1] + E + E
        self.assertEqual(third, [[-34], first[1], tall, tall, [2, 2] + E * 4, first[5]])
        undone = ask(*before, *asked, put(3, "-EE"), *asked, ("undo",), *asked)[20:]
        self.assertEqual(undone, first)


class Fits(Case):
    def size(self, words):
        return last(put(0, words), ("size", 0))

    def test_six_rows_or_columns(self):
        self.assertEqual(self.size("x6y6A"), [6, 6])
        self.assertEqual(self.size("x2x3y3y2A"), [6, 6])
        self.assertEqual(self.size("|x5AB"), [1, 6])
        self.assertEqual(self.size("-By5A"), [6, 1])
        self.assertEqual(self.size("|x3Ax3B"), [1, 6])
        self.assertEqual(self.size("-y3Ay3B"), [6, 1])

    def test_seven_rows_or_columns(self):
        for words in ("|x6AB", "|Bx6A", "-y6AB", "-By6A", "|x3Ax4B", "-y4Ay3B", "x4|AB", "y4-AB", "x2x4A", "y2y4A"):
            self.assertEqual(self.size(words), [-34])

    def test_seven_when_turned(self):
        self.assertEqual(self.size("-rx6AB"), [-34])
        self.assertEqual(self.size("|ry6AB"), [-34])
        self.assertEqual(self.size("|rx6Ay6B"), [6, 2])

    def test_equally_high_and_wide(self):
        self.assertEqual(self.size("|A-AB"), [-34])
        self.assertEqual(self.size("|-ABA"), [-34])
        self.assertEqual(self.size("-A|AB"), [-34])
        self.assertEqual(self.size("-|ABA"), [-34])
        self.assertEqual(self.size("|-ABr|AB"), [2, 2])
        self.assertEqual(self.size("-|ABr-AB"), [2, 2])
        self.assertEqual(self.size("|y2Ay3A"), [-34])
        self.assertEqual(self.size("-x2Ax3A"), [-34])

    def test_what_does_not_fit_only_on_the_way(self):
        # As many patches as would fill a block, but told in an order that does not fit.
        self.assertEqual(self.size("-|A|BC|D|EF"), [2, 3])
        self.assertEqual(self.size("|A|B-C|D|EF"), [-34])
        self.assertEqual(self.size("r|x6AB"), [-34])
        self.assertEqual(self.size("-|A-AB|AB"), [-34])
        self.assertEqual(self.size("x2|AB"), [1, 4])
        self.assertEqual(self.size("mrx2y2|A-AA"), [-34])

    def test_a_name_that_does_not_fit(self):
        self.told_behind_start(
            (put(1, "x6|AB"), 0),
            (put(0, "$b"), 0),
            (put(2, "|A-A$d"), 0),
            (("size", 1), -34),
            (("size", 0), -34),
            (("size", 2), -34),
            (put(1, "x3|AB"), 0),
            (("size", 0), [1, 6]),
            (("size", 1), [1, 6]),
        )

    def test_names_that_double_one_another_through_all_eight(self):
        chain = [put(k, "|$" + "abcdefgh"[k + 1] + "$" + "abcdefgh"[k + 1]) for k in range(7)] + [put(7, "A")]
        asked = [("size", k) for k in range(8)] + [("uses", 0), ("users", 7), ("same", 5, 6)]
        expected = [[-34]] * 5 + [[1, 4], [1, 2], [1, 1], [254], [127], [0]]
        self.assertEqual(ask(*chain, *asked)[8:], expected)

    def test_long_words_that_use_one_another_through_all_eight(self):
        chain = [put(k, ("|$" + "abcdefgh"[k + 1]) * 60 + "$" + "abcdefgh"[k + 1]) for k in range(7)] + [put(7, "A")]
        self.assertEqual(ask(*chain, ("draw", 0), ("draw", 6), ("uses", 0))[8:], [[-34], [-34], [254]])
        turns = [put(k, "r" * 197 + "m$" + "abcdefgh"[k + 1]) for k in range(6, -1, -1)]
        self.assertEqual(ask(put(7, "x6y6/AB"), *turns, ("size", 0))[-1], [6, 6])

    def test_nested_as_deep_as_200_bytes_allow(self):
        self.assertEqual(drawn("r" * 197 + "/AB"), [1, 1, 2, 1, 2])
        self.assertEqual(drawn("m" * 197 + "/AB"), [1, 1, 2, 1, 2])
        self.assertEqual(drawn("rm" * 98 + "|AB"), [1, 2] + A + B)
        self.assertEqual(drawn("|" * 99 + "A" * 100), [-34])
        self.assertEqual(drawn("-" * 99 + "A" * 100), [-34])
        self.assertEqual(drawn("|A" * 99 + "A"), [-34])
        self.assertEqual(drawn("x2" * 99 + "A"), [-34])
        self.assertEqual(drawn("y6" * 99 + "A"), [-34])


class Halves(Case):
    def halves(self, words):
        return last(put(0, words), ("halves", 0))

    def test_halves(self):
        self.assertEqual(self.halves("A"), [0, 2, 0, 0, 0, 0, 0, 0, 0, 0])
        self.assertEqual(self.halves("I"), [0, 0, 0, 0, 0, 0, 0, 0, 0, 2])
        self.assertEqual(self.halves("/AB"), [0, 1, 1, 0, 0, 0, 0, 0, 0, 0])
        self.assertEqual(self.halves("\\IA"), [0, 1, 0, 0, 0, 0, 0, 0, 0, 1])
        self.assertEqual(self.halves("|A|/AB\\CA"), [0, 4, 1, 1, 0, 0, 0, 0, 0, 0])
        self.assertEqual(self.halves("x6y6H"), [0, 0, 0, 0, 0, 0, 0, 0, 72, 0])
        self.assertEqual(self.halves("y5x6/DE"), [0, 0, 0, 0, 30, 30, 0, 0, 0, 0])

    def test_halves_of_names(self):
        self.assertEqual(last(put(1, "|A/BC"), put(0, "-$bm$b"), ("halves", 0)), [0, 4, 2, 2, 0, 0, 0, 0, 0, 0])


class Same(Case):
    def same(self, first, second):
        return last(put(3, first), put(4, second), ("same", 3, 4))

    def test_drawn_the_same(self):
        for first, second in (
            ("A", "A"), ("A", "rA"), ("x2A", "|AA"), ("r/AB", "\\AB"), ("rr/AB", "/BA"),
            ("-|AB|CD", "|-AC-BD"), ("r|AB", "-AB"), ("rrrrm|AB", "|BA"),
        ):
            self.assertEqual(self.same(first, second), [1])
            self.assertEqual(self.same(second, first), [1])

    def test_drawn_otherwise(self):
        for first, second in (
            ("A", "B"), ("A", "|AA"), ("|AA", "-AA"), ("/AB", "\\AB"), ("/AB", "/BA"), ("/AB", "A"),
            ("|AB", "|BA"), ("/AB", "/AC"), ("x2y3A", "x3y2A"),
        ):
            self.assertEqual(self.same(first, second), [0])
            self.assertEqual(self.same(second, first), [0])

    def test_a_name_and_one_that_it_uses(self):
        self.told_behind_start(
            (put(0, "rr$b"), 0),
            (put(1, "/AB"), 0),
            (("same", 0, 1), 0),
            (("same", 0, 0), 1),
            (put(0, "rrrr$b"), 0),
            (("same", 0, 1), 1),
            (put(1, "C"), 0),
            (("same", 1, 0), 1),
        )


class Fixing(Case):
    def fixing(self, words):
        return last(put(0, words), ("fixing", 0))

    def test_one_patch(self):
        self.assertEqual(self.fixing("A"), [8, 255])
        # Mirrored at its other corner-to-corner line: mirrored, then turned three times or once.
        self.assertEqual(self.fixing("/AB"), [2, 1 + 128])
        self.assertEqual(self.fixing("\\AB"), [2, 1 + 32])

    def test_rows_and_columns(self):
        # Turned twice; mirrored; mirrored and turned twice.
        self.assertEqual(self.fixing("|AA"), [4, 1 + 4 + 16 + 64])
        self.assertEqual(self.fixing("-AA"), [4, 1 + 4 + 16 + 64])
        self.assertEqual(self.fixing("|AB"), [2, 1 + 64])
        self.assertEqual(self.fixing("-AB"), [2, 1 + 16])
        self.assertEqual(self.fixing("|/AB\\AB"), [2, 1 + 16])

    def test_squares(self):
        self.assertEqual(self.fixing("-|AB|CD"), [1, 1])
        self.assertEqual(self.fixing("-|AB|BA"), [4, 1 + 4 + 32 + 128])
        self.assertEqual(self.fixing("-|AB|BC"), [2, 1 + 128])
        self.assertEqual(self.fixing("-|BA|CB"), [2, 1 + 32])
        self.assertEqual(self.fixing("x6y6A"), [8, 255])

    def test_a_diamond_and_a_pinwheel(self):
        self.assertEqual(last(put(1, "|/ABr/AB"), put(0, "-$brr$b"), ("fixing", 0)), [8, 255])
        # Mirrored, a pinwheel has its two colours changed.
        self.assertEqual(last(put(1, "|\\ABr\\AB"), put(0, "-$brr$b"), ("fixing", 0)), [4, 15])
