"""Point 3: undo and redo, and how many changes are kept."""

from helper import Case, ask, put


class Changes(Case):
    def test_undone_and_done_again(self):
        self.told_behind_start(
            (put(0, "A"), 0),
            (put(0, "B"), 0),
            (put(1, "C"), 0),
            (("undo",), 2),
            (("text", 1), -2),
            (("text", 0), [1, 66]),
            (("undo",), 1),
            (("text", 0), [1, 65]),
            (("undo",), 0),
            (("text", 0), -2),
            (("undo",), -6),
            (("redo",), 2),
            (("text", 0), [1, 65]),
            (("redo",), 1),
            (("text", 0), [1, 66]),
            (("redo",), 0),
            (("text", 1), [1, 67]),
            (("redo",), -6),
            (("text", 1), [1, 67]),
            (("undo",), 2),
        )

    def test_a_drop_undone_and_done_again(self):
        self.told_behind_start(
            (put(0, "/AB"), 0),
            (("drop", 0), 0),
            (("undo",), 1),
            (("draw", 0), [1, 1, 1, 1, 2]),
            (("redo",), 0),
            (("draw", 0), -2),
            (("undo",), 1),
        )

    def test_redo_behind_a_change(self):
        for change in (put(0, "C"), put(1, "C"), ("drop", 0)):
            self.told_behind_start(
                (put(0, "A"), 0),
                (put(0, "B"), 0),
                (("undo",), 1),
                (change, 0),
                (("redo",), -6),
                (("undo",), 1),
                (("text", 0), [1, 65]),
                (("redo",), 0),
                (("redo",), -6),
            )

    def test_redo_behind_a_call_that_changes_nothing(self):
        asked = [("text", 0), ("uses", 0), ("size", 0), ("draw", 0), ("fixing", 0), ("same", 0, 0)]
        calls = [put(0, "A"), put(0, "B"), ("undo",), *asked, ("redo",), ("text", 0)]
        self.assertEqual(ask(*calls)[-2:], [[0], [1, 66]])

    def numbered(self, count):
        """So many changes, each told from the one before by how many r's it has."""
        return [(put(0, "r" * number + "A"), 0) for number in range(count)]

    def undone(self, count, left):
        """So many undos behind so many changes, of which the last is undone first."""
        pairs = []
        for number in range(count):
            pairs.append((("undo",), count - 1 - number))
            ahead = left - 2 - number
            pairs.append((("text", 0), [ahead + 1] + [114] * ahead + [65] if ahead >= 0 else -2))
        return pairs

    def test_31_and_32_changes(self):
        for count in (31, 32):
            self.told_behind_start(*self.numbered(count), *self.undone(count, count), (("undo",), -6))

    def test_33_changes(self):
        self.told_behind_start(
            *self.numbered(33),
            *self.undone(32, 33),
            (("undo",), -6),
            (("text", 0), [1, 65]),
            *[(("redo",), 31 - number) for number in range(32)],
            (("redo",), -6),
            (("text", 0), [33] + [114] * 32 + [65]),
            (("undo",), 31),
        )

    def test_40_changes(self):
        self.told_behind_start(*self.numbered(40), *self.undone(32, 40), (("undo",), -6))

    def test_a_change_behind_32_kept_and_one_undone(self):
        self.told_behind_start(
            *self.numbered(32),
            (("undo",), 31),
            (put(0, "B"), 0),
            (("undo",), 31),
            (("redo",), 0),
            (put(0, "C"), 0),
            *[(("undo",), 31 - number) for number in range(32)],
            (("undo",), -6),
            (("text", 0), [1, 65]),
        )

    def test_refusals_are_no_changes(self):
        refused = [(put(8, "A"), -22), (put(0, "AA"), -71), (put(0, "$a"), -41), (("drop", 1), -2)]
        self.told_behind_start(*refused * 20, (("undo",), -6), (("redo",), -6))

    def test_what_is_undone_counts_for_who_uses_itself(self):
        self.told_behind_start(
            (put(0, "$b"), 0),
            (("undo",), 0),
            (put(1, "$a"), 0),
            (put(0, "$b"), -41),
            (("undo",), 0),
            (put(0, "$b"), 0),
        )

    def test_all_is_as_it_was(self):
        words = ["|$b$c", "A", "/BC", "-$a$a", "$d", "\\EF", "y6$f", "$h"]
        asked = [(call, k) for k in range(8) for call in ("text", "uses", "users", "size", "draw", "halves", "fixing")]
        asked += [("same", j, k) for j in range(8) for k in range(8) if j != k][:40]
        changes = [put(k, words[k]) for k in range(7, -1, -1)]
        at_once = ask(*changes, *asked)[8:]
        there_and_back = [("undo",)] * 8 + [("redo",)] * 8
        self.assertEqual(ask(*changes, *there_and_back, *asked)[24:], at_once)
        self.assertEqual(ask(*changes, put(1, "-AB"), ("drop", 4), *[("undo",)] * 2, *asked)[12:], at_once)
