"""Point 2: put and drop, and which bytes are a block's words."""

from helper import LARGEST, Case, ask, last, put


class Words(Case):
    def taken(self, *texts):
        for words in texts:
            with self.subTest(words=words):
                self.assertEqual(last(put(0, words)), [0])

    def refused(self, *texts):
        for words in texts:
            with self.subTest(words=words):
                self.assertEqual(last(put(0, words)), [-71])

    def test_each_kind_of_words(self):
        self.taken("A", "I", "/AB", "/IA", "\\AB", "\\IA", "rA", "mA", "|AB", "-AB", "$b", "$h")
        self.taken("x2A", "x6A", "y2A", "y6A", "rmx3y2|/AB-C\\DE")

    def test_words_need_not_fit(self):
        self.taken("|A-AB", "-A|AB", "x6x6A", "x4|AB", "|$b$c")

    def test_no_words_at_all(self):
        self.refused("")

    def test_words_that_stop_too_early(self):
        self.refused("/", "/A", "\\", "\\A", "r", "m", "|", "|A", "-", "-A", "x", "x2", "y", "y6", "$")
        self.refused("||AB", "r|A", "-/AB", "|A$")

    def test_words_that_go_on_too_long(self):
        self.refused("AB", "/ABC", "\\ABA", "rAA", "|ABC", "-ABr", "x2AB", "$b$c", "A$", "A ", "AA|")

    def test_a_parted_patch_of_two_like_letters(self):
        self.refused(*["/" + letter * 2 for letter in "ABCDEFGHI"])
        self.refused(*["\\" + letter * 2 for letter in "ABCDEFGHI"])
        self.refused("|A/BB")

    def test_a_parted_patch_of_what_is_no_letter(self):
        self.refused("/AJ", "/JA", "/A@", "\\@A", "/rA", "/A/", "/Ab", "/$bA", "\\aB")

    def test_digits_behind_x_and_y(self):
        for digit in "23456":
            self.taken("x" + digit + "A", "y" + digit + "A")
        for digit in "01789:/A":
            self.refused("x" + digit + "A", "y" + digit + "A")

    def test_letters_behind_a_dollar(self):
        for letter in "bcdefgh":
            self.taken("$" + letter)
        self.refused("$i", "$`", "$A", "$2", "$$", "$z")

    def test_every_single_byte(self):
        for byte in range(256):
            expected = 0 if byte in range(65, 74) else -71
            self.assertEqual(last(put(0, [byte])), [expected])

    def test_every_byte_ahead_of_a_block(self):
        for byte in range(256):
            expected = 0 if byte in (ord("r"), ord("m")) else -71
            self.assertEqual(last(put(0, [byte, 65])), [expected])

    def test_blanks_are_no_words(self):
        self.refused(" A", "A ", "| AB", "|A B", "A\n")


class Put(Case):
    def test_names_at_the_ends(self):
        self.told_behind_start(
            (put(0, "A"), 0),
            (put(7, "B"), 0),
            (put(8, "C"), -22),
            (put(LARGEST, "D"), -22),
            (("text", 0), [1, 65]),
            (("text", 7), [1, 66]),
            (("undo",), 1),
        )

    def test_how_many_bytes(self):
        at_most = "r" * 199 + "A"
        self.told_behind_start(
            (put(0, ""), -71),
            (put(0, at_most), 0),
            (put(0, "r" + at_most), -22),
            (put(0, "r" * 299 + "A"), -22),
            (("text", 0), [200] + [114] * 199 + [65]),
            (("undo",), 0),
        )

    def test_which_refusal_is_answered(self):
        self.told_behind_start(
            (put(8, ""), -22),
            (put(8, "$a"), -22),
            (put(0, [0] * 201), -22),
            (put(0, "r" * 199 + "$a"), -22),
            (put(0, "|$a"), -71),
            (put(0, "$aA"), -71),
            (put(0, "r" * 198 + "$a"), -41),
            (put(0, "|$a-AB"), -41),
            (("undo",), -6),
        )

    def test_a_name_that_uses_itself(self):
        for k, letter in enumerate("abcdefgh"):
            self.assertEqual(last(put(k, "$" + letter)), [-41])
            self.assertEqual(last(put(k, "|A|B$" + letter)), [-41])

    def test_a_name_that_uses_itself_by_another(self):
        self.told_behind_start(
            (put(0, "$b"), 0),
            (put(1, "|A$a"), -41),
            (("text", 1), -2),
            (put(1, "$c"), 0),
            (put(2, "r$a"), -41),
            (put(2, "r$b"), -41),
            (put(2, "$d"), 0),
            (("uses", 0), 14),
        )

    def test_a_name_that_uses_itself_by_seven_others(self):
        chain = [put(k, "$" + "abcdefgh"[k + 1]) for k in range(7)]
        for letter in "abcdefgh":
            self.assertEqual(ask(*chain, put(7, "$" + letter), ("text", 7)), [[0]] * 7 + [[-41], [-2]])
        backwards = [put(k, "$" + "abcdefgh"[k - 1]) for k in range(1, 8)]
        self.assertEqual(ask(*backwards, put(0, "$h"), ("uses", 7)), [[0]] * 7 + [[-41], [127]])

    def test_a_name_may_no_more_use_what_now_uses_it(self):
        self.told_behind_start(
            (put(0, "$b"), 0),
            (put(1, "$a"), -41),
            (put(0, "A"), 0),
            (put(1, "$a"), 0),
            (put(0, "$b"), -41),
            (("text", 0), [1, 65]),
            (("draw", 1), [1, 1, 0, 1, 1]),
        )

    def test_a_refused_put_leaves_what_was_undone(self):
        for words, refusal in (("$a", -41), ("AA", -71), ("r" * 201, -22)):
            self.told_behind_start(
                (put(0, "A"), 0),
                (put(0, "B"), 0),
                (("undo",), 1),
                (put(0, words), refusal),
                (("text", 0), [1, 65]),
                (("redo",), 0),
                (("text", 0), [1, 66]),
            )

    def test_the_same_words_again_are_a_change(self):
        self.told_behind_start(
            (put(0, "A"), 0),
            (put(0, "A"), 0),
            (("undo",), 1),
            (("text", 0), [1, 65]),
            (("undo",), 0),
            (("text", 0), -2),
        )


class Drop(Case):
    def test_a_name_dropped_stands_for_nothing(self):
        self.told_behind_start(
            (put(0, "A"), 0),
            (put(7, "B"), 0),
            (("drop", 0), 0),
            (("text", 0), -2),
            (("size", 0), -2),
            (("drop", 0), -2),
            (("text", 7), [1, 66]),
            (("drop", 7), 0),
            (("drop", 7), -2),
            (("undo",), 3),
            (("text", 7), [1, 66]),
        )

    def test_no_such_name(self):
        self.told_behind_start((("drop", 8), -2), (("drop", LARGEST), -2), (("undo",), -6))

    def test_a_name_that_another_uses(self):
        self.told_behind_start(
            (put(2, "A"), 0),
            (put(1, "$c"), 0),
            (put(0, "$b"), 0),
            (("drop", 2), -35),
            (("drop", 1), -35),
            (("text", 2), [1, 65]),
            (("drop", 0), 0),
            (("drop", 2), -35),
            (("drop", 1), 0),
            (("drop", 2), 0),
            (("undo",), 5),
        )

    def test_a_name_that_is_used_but_stands_for_nothing(self):
        self.told_behind_start((put(0, "$b"), 0), (("drop", 1), -2))

    def test_a_refused_drop_leaves_what_was_undone(self):
        self.told_behind_start(
            (put(1, "A"), 0),
            (put(0, "$b"), 0),
            (put(0, "r$b"), 0),
            (("undo",), 2),
            (("drop", 1), -35),
            (("drop", 2), -2),
            (("redo",), 0),
            (("text", 0), [3, 114, 36, 98]),
        )

    def test_dropped_while_used_then_undone(self):
        self.told_behind_start(
            (put(1, "A"), 0),
            (put(0, "$b"), 0),
            (("drop", 1), -35),
            (("undo",), 1),
            (("text", 0), -2),
            (("drop", 1), 0),
            (("undo",), 1),
            (("draw", 1), [1, 1, 0, 1, 1]),
            (("redo",), 0),
            (("text", 1), -2),
        )
