"""Point 1: start."""

from helper import LARGEST, START, Case, put


class Start(Case):
    def test_measures_at_both_ends(self):
        for wide in (200, 201, 2999, 3000):
            self.told((("start", wide, 50, 5), 0))
        for unit in (10, 11, 199, 200):
            self.told((("start", 1000, unit, 5), 0))
        for edge in (0, 1, 19, 20):
            self.told((("start", 1000, 50, edge), 0))
        self.told((("start", 200, 10, 0), 0))
        self.told((("start", 3000, 200, 20), 0))

    def test_measures_just_beyond(self):
        for wide in (0, 199, 3001, LARGEST):
            self.told((("start", wide, 50, 5), -22))
        for unit in (0, 9, 201, LARGEST):
            self.told((("start", 1000, unit, 5), -22))
        for edge in (21, 22, LARGEST):
            self.told((("start", 1000, 50, edge), -22))

    def test_tried_till_it_is_answered_0(self):
        self.told(
            (("start", 199, 50, 5), -22),
            (("start", 1000, 9, 5), -22),
            (("start", 1000, 50, 21), -22),
            (START, 0),
            (put(0, "A"), 0),
            (("draw", 0), [1, 1, 0, 1, 1]),
        )

    def test_a_new_object_has_no_names_and_no_changes(self):
        asked = [("drop", 0), ("text", 0), ("uses", 0), ("users", 0), ("size", 0), ("draw", 0),
                 ("halves", 0), ("same", 0, 0), ("fixing", 0), ("plan", 0), ("need", 1), ("lacks",), ("begin",)]
        self.told_behind_start(*[(call, -2) for call in asked], (("undo",), -6), (("redo",), -6))

    def test_start_again_forgets_all(self):
        self.told_behind_start(
            (put(0, "A"), 0),
            (put(1, "$a"), 0),
            (("undo",), 1),
            (("start", 200, 10, 0), 0),
            (("text", 0), -2),
            (("undo",), -6),
            (("redo",), -6),
            (put(0, "$b"), 0),
            (("undo",), 0),
        )

    def test_start_again_leaves_no_cloth_and_nothing_sewn_or_done(self):
        self.told_behind_start(
            (put(0, "A"), 0),
            (("buy", 1, 200), 200),
            (("begin",), 1),
            (("finish",), 1),
            (("begin",), 1),
            (("state",), [1, 1, 1, 0]),
            (("start", 200, 10, 0), 0),
            (("state",), [0, 0, 0, 0]),
            *[(("cloth", c), [0, 0, 0]) for c in range(1, 10)],
            (("parts",), -16),
            (("begin",), -2),
            (put(0, "A"), 0),
            (("need", 1), 10),
            (("buy", 1, 10), 10),
            (("begin",), 1),
            (("finish",), 1),
        )

    def test_start_refused_leaves_what_is_sewn(self):
        self.told_behind_start(
            (put(0, "|AB"), 0),
            (("buy", 1, 200), 200),
            (("buy", 2, 60), 60),
            (("begin",), 2),
            (("start", 200, 10, 21), -22),
            (("state",), [1, 0, 1, 0]),
            (("cloth", 1), [140, 200, 60]),
            (("need", 1), 60),
            (("seam", 0), 0),
            (("start", 200, 9, 0), -22),
            (("finish",), 1),
            (("start", 199, 10, 0), -22),
            (("state",), [0, 1, 1, 0]),
        )

    def test_start_refused_leaves_all(self):
        self.told_behind_start(
            (put(0, "A"), 0),
            (put(0, "B"), 0),
            (("undo",), 1),
            (("start", 3001, 50, 5), -22),
            (("text", 0), [1, 65]),
            (("redo",), 0),
            (("text", 0), [1, 66]),
            (("undo",), 1),
            (("undo",), 0),
        )
