"""Point 4: text, uses and users."""

from helper import LARGEST, Case, ask, last, put


class Text(Case):
    def test_text(self):
        self.told_behind_start(
            (put(0, "A"), 0),
            (put(7, "|/AB$c"), 0),
            (("text", 0), [1, 65]),
            (("text", 7), [6, 124, 47, 65, 66, 36, 99]),
        )

    def test_text_of_what_cannot_be_drawn(self):
        self.told_behind_start((put(3, "x6x6$h"), 0), (("text", 3), [6, 120, 54, 120, 54, 36, 104]))

    def test_nothing_and_no_such_name(self):
        for call in ("text", "uses", "users"):
            self.told_behind_start(
                (put(0, "$h"), 0),
                ((call, 1), -2),
                ((call, 7), -2),
                ((call, 8), -2),
                ((call, LARGEST), -2),
            )


class Uses(Case):
    def test_none(self):
        self.told_behind_start((put(0, "A"), 0), (("uses", 0), 0), (("users", 0), 0))

    def test_names_in_the_words(self):
        self.told_behind_start(
            (put(0, "|$b|$h$b"), 0),
            (("uses", 0), 130),
            (put(7, "A"), 0),
            (put(1, "B"), 0),
            (("users", 1), 1),
            (("users", 7), 1),
            (("users", 0), 0),
        )

    def test_by_however_many(self):
        chain = [put(k, "$" + "abcdefgh"[k + 1]) for k in range(7)] + [put(7, "A")]
        asked = [("uses", k) for k in range(8)] + [("users", k) for k in range(8)]
        uses = [[254], [252], [248], [240], [224], [192], [128], [0]]
        users = [[0], [1], [3], [7], [15], [31], [63], [127]]
        self.assertEqual(ask(*chain, *asked)[8:], uses + users)
        self.assertEqual(ask(*reversed(chain), *asked)[8:], uses + users)

    def test_by_however_many_the_other_way(self):
        chain = [put(k, "$" + "abcdefgh"[k - 1]) for k in range(1, 8)] + [put(0, "A")]
        asked = [("uses", k) for k in range(8)] + [("users", k) for k in range(8)]
        uses = [[0], [1], [3], [7], [15], [31], [63], [127]]
        users = [[254], [252], [248], [240], [224], [192], [128], [0]]
        self.assertEqual(ask(*chain, *asked)[8:], uses + users)

    def test_told_anew(self):
        self.told_behind_start(
            (put(0, "$b"), 0),
            (put(1, "$c"), 0),
            (put(2, "A"), 0),
            (("uses", 0), 6),
            (("users", 2), 3),
            (put(1, "$d"), 0),
            (("uses", 0), 10),
            (("users", 2), 0),
            (("undo",), 3),
            (("uses", 0), 6),
            (("users", 2), 3),
        )

    def test_what_does_not_fit_is_used_all_the_same(self):
        self.told_behind_start(
            (put(1, "A"), 0), (put(0, "|$b-$b$b"), 0), (("uses", 0), 2), (("users", 1), 1), (("drop", 1), -35)
        )

    def test_60_names_in_one_text(self):
        words = "|$b" * 59 + "$c"
        self.assertEqual(len(words), 179)
        self.told_behind_start(
            (put(1, "A"), 0),
            (put(2, "B"), 0),
            (put(0, words), 0),
            (("text", 0), [179] + [124, 36, 98] * 59 + [36, 99]),
            (("uses", 0), 6),
            (("users", 1), 1),
            (("users", 2), 1),
            (("size", 0), -34),
            (("drop", 2), -35),
            (put(2, words), -41),
        )

    def test_as_many_names_as_can_be_drawn(self):
        row = "|$b" * 5 + "$b"
        words = ("-" + row) * 5 + row
        self.assertEqual(last(put(1, "/CD"), put(0, words), ("draw", 0)), [6, 6] + [1, 3, 4] * 36)
