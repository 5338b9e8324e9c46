"""Point 7 and the second paragraph of "The calls": undo and redo."""

from tests.helper import (CHANGED, FLUSH, REDO, ROLLBACK, TABLES, UNDO, LineTest, back, fill, find, list_, load, new, refresh, relist,
                          remove, replies, row, set_)

TEXT = load("table p { n: number from 0 to 99; a: ref p none clear; b: ref p none cascade; c: ref p none; } table q { d: ref p; }")
ROWS = fill(4, 1, 10, 0, 0, 0, 2, 20, 1, 0, 0, 3, 30, 0, 1, 0, 4, 40, 2, 0, 2, 1, 7, 2)
BEFORE = [TEXT, ROWS]

# Each deed with an answer that begins with 0, but what it does is seen in tables.
DEEDS = {
    "new": [new(0, 5, 1, 0, 0)],
    "set": [set_(0, 1, 0, 77)],
    "remove": [remove(0, 1)],
    "back": [remove(0, 1), back(0, 1)],
    "relist": [relist(0, 1, 0, 1, 4)],
    "refresh": [set_(0, 1, 0, 77), refresh(0, 1)],
}

# Each deed with an answer that doesn't begin with 0: 1 or 2, and the refusals.
FAILING = [
    (new(0, 5, 9, 0, 0), [1, 1]), (new(2), [-3]), (new(0), [-7]),
    (set_(0, 1, 0, 1000001), [1]), (set_(2, 1, 0, 0), [-3]), (set_(0, 9, 0, 0), [-5]), (set_(0, 1, 4, 0), [-7]),
    (remove(0, 2), [1, 0, 4, 3]), (remove(2, 1), [-3]), (remove(0, 9), [-5]),
    (back(0, 1), [1]), (back(2, 1), [-3]), (back(0, 9), [-5]),
    (relist(0, 2, 1, 0), [1, 7]), (relist(2, 1, 0, 1), [-3]), (relist(0, 9, 0, 1), [-5]), (relist(0, 1, 2, 0), [-3]),
    (relist(0, 1, 0, 4), [-7]), (relist(0, 1, 0, 0), [-8]), (relist(0, 1, 0, 1, 9), [-12]),
    (refresh(0, 1), [2]), (refresh(2, 1), [-3]), (refresh(0, 9), [-5]),
]

ASKING = [list_(0, 1, 0, 1), row(0, 1), find(0, 0, 10), CHANGED, TABLES]


class UndoTest(LineTest):

    def check_undone(self, before, count):
        """Just so many deeds can be undone behind these calls, which all answer 0 first."""
        self.check_last(before, *[(UNDO, [0])] * count, (UNDO, [-9]))

    def check_done_again(self, before, count):
        self.check_last(before, *[(REDO, [0])] * count, (REDO, [-9]))


class EachDeed(UndoTest):

    def test_undo_and_redo(self):
        for name, deeds in DEEDS.items():
            told = replies(*BEFORE, *deeds[:-1], TABLES, deeds[-1], TABLES, UNDO, TABLES, REDO, TABLES, UNDO, TABLES)
            before, answer, after, *rest = told[len(BEFORE) + len(deeds) - 1:]
            self.assertEqual(answer[0], 0, name)
            self.assertNotEqual(before, after, name)
            self.assertEqual(rest, [[0], before, [0], after, [0], before], name)

    def test_it_is_one_to_be_undone(self):
        for deeds in DEEDS.values():
            self.check_undone(BEFORE + deeds, len(deeds))

    def test_it_leaves_nothing_to_be_done_again(self):
        for deeds in DEEDS.values():
            before = BEFORE + [set_(0, 4, 0, 1)] + deeds[:-1] + [set_(0, 2, 0, 1), UNDO, deeds[-1]]
            self.check_done_again(before, 0)
            self.check_undone(before, len(deeds) + 1)

    def test_new(self):
        self.check_last(BEFORE, (new(0, 5, 1, 0, 0), [0, 100]), (UNDO, [0]), (row(0, 100), [-5]), (list_(0, 1, 0, 1), [0, 1, 2]),
                        (CHANGED, [0, 0]), (REDO, [0]), (row(0, 100), [0, 1, 5, 1, 0, 0]), (list_(0, 1, 0, 1), [0, 2, 2, 100]))

    def test_set(self):
        self.check_last(BEFORE, (set_(0, 1, 0, 77), [0]), (UNDO, [0]), (row(0, 1), [0, 0, 10, 0, 0, 0]), (REDO, [0]),
                        (row(0, 1), [0, 2, 77, 0, 0, 0]))

    def test_remove_with_what_it_took_along_and_cleared(self):
        self.check_last(BEFORE, (remove(0, 1), [0, 2]), (row(0, 2), [0, 2, 20, 0, 0, 0]), (row(0, 3), [-5]), (UNDO, [0]), (CHANGED, [0, 0]),
                        (TABLES, [0, *ROWS[2:]]), (REDO, [0]), (CHANGED, [0, 3, 1, 0, 2, 1, 1, 2, 0, 1, 2, 0, 3]))

    def test_back(self):
        self.check_last(BEFORE, (remove(0, 3), [0, 1]), (back(0, 3), [0, 30, 0, 1, 0]), (UNDO, [0]), (row(0, 3), [-5]), (UNDO, [0]),
                        (CHANGED, [0, 0]), (REDO, [0]), (row(0, 3), [-5]), (REDO, [0]), (row(0, 3), [0, 0, 30, 0, 1, 0]))

    def test_relist(self):
        self.check_last(BEFORE, (relist(0, 1, 0, 1, 4, 3), [0]), (UNDO, [0]), (list_(0, 1, 0, 1), [0, 1, 2]), (list_(0, 2, 0, 1), [0, 1, 4]),
                        (REDO, [0]), (list_(0, 1, 0, 1), [0, 2, 3, 4]), (list_(0, 2, 0, 1), [0, 0]))

    def test_refresh(self):
        self.check_last(BEFORE, (set_(0, 1, 0, 77), [0]), (refresh(0, 1), [0, 10, 0, 0, 0]), (UNDO, [0]), (row(0, 1), [0, 2, 77, 0, 0, 0]),
                        (REDO, [0]), (row(0, 1), [0, 0, 10, 0, 0, 0]))


class Order(UndoTest):

    def test_nothing_to_be_undone_or_done_again(self):
        self.check((UNDO, [-9]), (REDO, [-9]), (UNDO, [-9]), (TEXT, [0, 2, 5]), (UNDO, [-9]), (REDO, [-9]), (ROWS, [0]), (UNDO, [-9]), (REDO, [-9]))

    def test_the_last_one_is_undone_first_and_done_again_last(self):
        self.check_last(BEFORE, (set_(0, 1, 0, 1), [0]), (set_(0, 1, 0, 2), [0]), (set_(0, 1, 0, 3), [0]), (UNDO, [0]), (find(0, 0, 2), [0, 1, 1]),
                        (UNDO, [0]), (find(0, 0, 1), [0, 1, 1]), (UNDO, [0]), (find(0, 0, 10), [0, 1, 1]), (UNDO, [-9]), (REDO, [0]),
                        (find(0, 0, 1), [0, 1, 1]), (REDO, [0]), (find(0, 0, 2), [0, 1, 1]), (REDO, [0]), (find(0, 0, 3), [0, 1, 1]), (REDO, [-9]),
                        (find(0, 0, 3), [0, 1, 1]))

    def test_to_and_fro(self):
        self.check_last(BEFORE, (set_(0, 1, 0, 1), [0]), (set_(0, 1, 0, 2), [0]), (UNDO, [0]), (REDO, [0]), (UNDO, [0]), (UNDO, [0]), (REDO, [0]),
                        (find(0, 0, 1), [0, 1, 1]), (REDO, [0]), (find(0, 0, 2), [0, 1, 1]), (REDO, [-9]), (UNDO, [0]), (UNDO, [0]), (UNDO, [-9]))

    def test_a_deed_behind_an_undo(self):
        self.check_last(BEFORE, (set_(0, 1, 0, 1), [0]), (set_(0, 1, 0, 2), [0]), (UNDO, [0]), (set_(0, 1, 0, 3), [0]), (REDO, [-9]),
                        (find(0, 0, 3), [0, 1, 1]), (UNDO, [0]), (find(0, 0, 1), [0, 1, 1]), (UNDO, [0]), (find(0, 0, 10), [0, 1, 1]), (UNDO, [-9]),
                        (REDO, [0]), (REDO, [0]), (find(0, 0, 3), [0, 1, 1]), (REDO, [-9]))

    def test_a_deed_behind_a_redo(self):
        self.check_last(BEFORE, (set_(0, 1, 0, 1), [0]), (set_(0, 1, 0, 2), [0]), (UNDO, [0]), (UNDO, [0]), (REDO, [0]), (set_(0, 1, 0, 3), [0]),
                        (REDO, [-9]), (UNDO, [0]), (find(0, 0, 1), [0, 1, 1]), (UNDO, [0]), (find(0, 0, 10), [0, 1, 1]), (UNDO, [-9]))

    def test_undo_and_redo_are_no_deeds(self):
        self.check_undone(BEFORE + [set_(0, 1, 0, 1), UNDO, REDO, UNDO, REDO], 1)
        self.check_done_again(BEFORE + [set_(0, 1, 0, 1), UNDO, REDO, UNDO], 1)


class LastTen(UndoTest):

    def test_10_can_be_undone(self):
        for many in (1, 9, 10):
            self.check_undone(BEFORE + [set_(0, 1, 0, each) for each in range(many)], many)
        for many in (11, 12, 25):
            self.check_undone(BEFORE + [set_(0, 1, 0, each) for each in range(many)], 10)

    def test_what_was_before_the_last_10(self):
        deeds = [set_(0, 1, 0, each) for each in range(50, 63)]
        self.check_last(BEFORE + deeds + [UNDO] * 10, (find(0, 0, 52), [0, 1, 1]), (UNDO, [-9]), (find(0, 0, 52), [0, 1, 1]))

    def test_10_can_be_done_again(self):
        deeds = [set_(0, 1, 0, each) for each in range(50, 63)]
        self.check_done_again(BEFORE + deeds + [UNDO] * 10, 10)
        self.check_last(BEFORE + deeds + [UNDO] * 10 + [REDO] * 10, (find(0, 0, 62), [0, 1, 1]), (REDO, [-9]))
        self.check_undone(BEFORE + deeds + [UNDO] * 10 + [REDO] * 10, 10)

    def test_deeds_undone_make_room(self):
        deeds = [set_(0, 1, 0, each) for each in range(50, 60)]
        more = [set_(0, 1, 0, each) for each in range(70, 74)]
        self.check_last(BEFORE + deeds + [UNDO] * 4 + more + [UNDO] * 10, (find(0, 0, 10), [0, 1, 1]), (UNDO, [-9]))
        self.check_last(BEFORE + deeds + [UNDO] * 3 + more + [UNDO] * 10, (find(0, 0, 50), [0, 1, 1]), (UNDO, [-9]))

    def test_of_deeds_of_several_kinds(self):
        deeds = DEEDS["set"] + DEEDS["new"] + DEEDS["relist"] + DEEDS["back"] + DEEDS["refresh"]
        self.check_undone(BEFORE + deeds, 7)
        self.check_undone(BEFORE + deeds * 2, 10)


class DeedsThatChangeNothing(UndoTest):

    nothing = [set_(0, 1, 0, 10), set_(0, 2, 1, 1), relist(0, 1, 0, 1, 2), relist(0, 3, 0, 1)]

    def test_they_are_to_be_undone(self):
        for deed in self.nothing:
            self.check_undone(BEFORE + [deed], 1)
            self.check_last(BEFORE, (set_(0, 4, 0, 1), [0]), (deed, [0]), (UNDO, [0]), (find(0, 0, 1), [0, 1, 4]), (UNDO, [0]),
                            (find(0, 0, 1), [0, 0]), (UNDO, [-9]), (REDO, [0]), (REDO, [0]), (REDO, [-9]))

    def test_they_leave_nothing_to_be_done_again(self):
        for deed in self.nothing:
            self.check_last(BEFORE, (set_(0, 4, 0, 1), [0]), (UNDO, [0]), (deed, [0]), (REDO, [-9]), (find(0, 0, 1), [0, 0]))

    def test_a_refresh_that_changes_nothing(self):
        self.check_last(BEFORE, (remove(0, 1), [0, 2]), (set_(0, 4, 0, 1), [0]), (UNDO, [0]), (refresh(0, 2), [0, 20, 0, 0, 0]), (REDO, [-9]),
                        (UNDO, [0]), (row(0, 1), [-5]), (UNDO, [0]), (UNDO, [-9]))

    def test_they_count_among_the_10(self):
        self.check_last(BEFORE + [set_(0, 4, 0, 1)] + [set_(0, 1, 0, 10)] * 10 + [UNDO] * 10, (find(0, 0, 1), [0, 1, 4]), (UNDO, [-9]))


class DeedsThatFail(UndoTest):

    def test_they_are_none_to_be_undone(self):
        for deed, answer in FAILING:
            self.check_last(BEFORE, (deed, answer), (UNDO, [-9]), (set_(0, 1, 0, 10), [0]), (deed, answer), (UNDO, [0]), (UNDO, [-9]))

    def test_what_may_be_done_again_stays(self):
        for deed, answer in FAILING:
            self.check_last(BEFORE, (set_(0, 3, 0, 1), [0]), (UNDO, [0]), (deed, answer), (REDO, [0]), (row(0, 3), [0, 2, 1, 0, 1, 0]), (REDO, [-9]))

    def test_in_a_full_table(self):
        full = [load("table p { a: number; }"), fill(8, *[each for row_id in range(1, 9) for each in (row_id, 0)]), remove(0, 1), new(0, 5)]
        for deed, answer in ((new(0, 1), [0, 100]), (back(0, 1), [0, 0])):
            self.check_last(full, (deed, [-6]), (UNDO, [0]), (deed, answer))
            self.check_last(full, (set_(0, 2, 0, 9), [0]), (UNDO, [0]), (deed, [-6]), (REDO, [0]), (row(0, 2), [0, 2, 9]))

    def test_a_new_one_can_not_be_refreshed(self):
        self.check_last(BEFORE, (new(0, 5, 0, 0, 0), [0, 100]), (set_(0, 100, 0, 6), [0]), (UNDO, [0]), (refresh(0, 100), [1]), (REDO, [0]),
                        (row(0, 100), [0, 1, 6, 0, 0, 0]), (UNDO, [0]), (UNDO, [0]), (UNDO, [-9]))

    def test_neither_do_undo_and_redo_that_are_refused(self):
        self.check_last(BEFORE, (set_(0, 3, 0, 1), [0]), (REDO, [-9]), (UNDO, [0]), (UNDO, [-9]), (UNDO, [-9]), (REDO, [0]), (REDO, [-9]),
                        (row(0, 3), [0, 2, 1, 0, 1, 0]), (UNDO, [0]))

    def test_calls_that_only_tell(self):
        self.check_undone(BEFORE + [set_(0, 3, 0, 1)] + ASKING, 1)
        self.check_done_again(BEFORE + [set_(0, 3, 0, 1), UNDO] + ASKING, 1)


class BeginningAnew(UndoTest):
    """Load, fill, flush and rollback, those that answer 0 first and those that don't."""

    def test_nothing_is_left(self):
        deeds = [set_(0, 3, 0, 1), set_(0, 3, 0, 2), UNDO]
        for call in (TEXT, load(""), ROWS, FLUSH, ROLLBACK):
            self.check_undone(BEFORE + deeds + [call], 0)
            self.check_done_again(BEFORE + deeds + [call], 0)

    def test_without_a_change_too(self):
        deeds = [set_(0, 1, 0, 10), set_(0, 1, 0, 10), UNDO]
        for call, answer in ((FLUSH, [0, 0, 0]), (ROLLBACK, [0, 0]), (ROWS, [0])):
            self.check_last(BEFORE + deeds, (call, answer), (UNDO, [-9]), (REDO, [-9]))

    def test_what_is_undone_behind_them(self):
        for call in (ROWS, FLUSH, ROLLBACK):
            self.check_last(BEFORE + [set_(0, 3, 0, 1), call, set_(0, 4, 0, 2)], (UNDO, [0]), (find(0, 0, 2), [0, 0]),
                            (find(0, 0, 1), [0, 1, 3] if call == FLUSH else [0, 0]), (UNDO, [-9]), (REDO, [0]), (find(0, 0, 2), [0, 1, 4]))

    def test_those_that_fail_leave_all_as_it_was(self):
        deeds = [set_(0, 3, 0, 100), set_(0, 4, 0, 2), UNDO]
        failing = ((load("?"), [1, 1, 0]), (load([256]), [-1]), (load([32] * 4097), [-2]), (fill(1), [-4]), (fill(1, 1, 100, 0, 0, 0, 0), [1, 2, 0, 1, 0]),
                   (FLUSH, [1, 2, 0, 3, 0]))
        for call, answer in failing:
            self.check_last(BEFORE + deeds, (call, answer), (REDO, [0]), (find(0, 0, 2), [0, 1, 4]), (REDO, [-9]), (UNDO, [0]), (UNDO, [0]),
                            (TABLES, [0, *ROWS[2:]]), (UNDO, [-9]))

    def test_a_flush_that_fails_and_then_another(self):
        self.check_last(BEFORE, (set_(0, 3, 0, 100), [0]), (FLUSH, [1, 2, 0, 3, 0]), (UNDO, [0]), (FLUSH, [0, 0, 0]), (REDO, [-9]))
