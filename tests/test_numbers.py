""""A session" and point 4: the numbers of new objects, and how many may be made."""

from tests.helper import FLUSH, REDO, ROLLBACK, TABLES, UNDO, LineTest, back, fill, load, new, remove, row, set_

TEXT = load("table p { n: number from 0 to 9; a: ref p none cascade; } table q {}")
ROWS = fill(1, 5, 1, 0, 1, 9)
BEFORE = [TEXT, ROWS]
ONE = new(0, 0, 0)


def made(many):
    """Calls that make so many objects of table 0, which is without rows; all of each 8 are removed again with their first one."""
    calls = []
    for place in range(many):
        first = 100 + place // 8 * 8
        calls.append(ONE if place % 8 == 0 else new(0, 0, first))
        if place % 8 == 7:
            calls.append(remove(0, first))
    return calls


class Numbers(LineTest):

    def test_behind_an_undone_new(self):
        self.check_last(BEFORE, (ONE, [0, 100]), (new(1), [0, 101]), (UNDO, [0]), (ONE, [0, 101]), (row(0, 101), [0, 1, 0, 0]), (row(1, 101), [-5]),
                        (UNDO, [0]), (UNDO, [0]), (new(1), [0, 100]), (row(0, 100), [-5]), (row(1, 100), [0, 1]))

    def test_behind_a_removed_one(self):
        self.check_last(BEFORE, (ONE, [0, 100]), (ONE, [0, 101]), (remove(0, 100), [0, 1]), (ONE, [0, 102]), (remove(0, 102), [0, 1]), (ONE, [0, 103]),
                        (row(0, 100), [-5]), (row(0, 102), [-5]))

    def test_behind_one_that_a_cascade_took_along(self):
        self.check_last(BEFORE, (new(0, 0, 5), [0, 100]), (remove(0, 5), [0, 2]), (ONE, [0, 101]))

    def test_behind_an_undone_removal(self):
        self.check_last(BEFORE, (ONE, [0, 100]), (remove(0, 100), [0, 1]), (UNDO, [0]), (row(0, 100), [0, 1, 0, 0]), (ONE, [0, 101]))

    def test_behind_a_removal_and_a_new_that_are_both_undone(self):
        self.check_last(BEFORE, (ONE, [0, 100]), (remove(0, 100), [0, 1]), (UNDO, [0]), (UNDO, [0]), (row(0, 100), [-5]), (ONE, [0, 100]))

    def test_behind_an_undone_new_behind_a_removal(self):
        self.check_last(BEFORE, (ONE, [0, 100]), (remove(0, 100), [0, 1]), (ONE, [0, 101]), (UNDO, [0]), (ONE, [0, 101]), (UNDO, [0]), (UNDO, [0]),
                        (ONE, [0, 101]), (row(0, 100), [0, 1, 0, 0]))

    def test_behind_undo_and_redo(self):
        self.check_last(BEFORE, (ONE, [0, 100]), (ONE, [0, 101]), (UNDO, [0]), (UNDO, [0]), (REDO, [0]), (row(0, 100), [0, 1, 0, 0]),
                        (row(0, 101), [-5]), (REDO, [0]), (row(0, 101), [0, 1, 0, 0]), (ONE, [0, 102]))
        self.check_last(BEFORE, (ONE, [0, 100]), (ONE, [0, 101]), (UNDO, [0]), (UNDO, [0]), (REDO, [0]), (new(1), [0, 101]), (REDO, [-9]))

    def test_behind_a_removal_done_again(self):
        self.check_last(BEFORE, (ONE, [0, 100]), (remove(0, 100), [0, 1]), (UNDO, [0]), (REDO, [0]), (ONE, [0, 101]))

    def test_undoing_other_deeds_leaves_them(self):
        self.check_last(BEFORE, (ONE, [0, 100]), (set_(0, 5, 0, 2), [0]), (UNDO, [0]), (ONE, [0, 101]), (remove(1, 9), [0, 1]), (back(1, 9), [0]),
                        (UNDO, [0]), (UNDO, [0]), (ONE, [0, 102]))

    def test_behind_one_that_was_not_made(self):
        self.check_last(BEFORE, (new(0, 0, 77), [1, 1]), (new(0), [-7]), (new(2), [-3]), (ONE, [0, 100]))

    def test_behind_flush_rollback_fill_and_load(self):
        made_two = BEFORE + [ONE, new(1), remove(1, 101)]
        self.check_last(made_two, (FLUSH, [0, 1, 1, 0, 100, 1]), (new(1), [0, 100]), (ONE, [0, 101]))
        self.check_last(made_two, (ROLLBACK, [0, 1]), (new(1), [0, 100]), (ONE, [0, 101]))
        self.check_last(made_two, (ROWS, [0]), (new(1), [0, 100]), (ONE, [0, 101]))
        self.check_last(made_two, (TEXT, [0, 2, 2]), (new(1), [0, 100]), (ONE, [0, 101]))

    def test_behind_a_flush_rollback_fill_or_load_that_answers_0_without_changes(self):
        for call, answer in ((FLUSH, [0, 0, 0]), (ROLLBACK, [0, 0])):
            self.check_last(BEFORE + [ONE, remove(0, 100)], (call, answer), (ONE, [0, 100]))

    def test_behind_a_flush_fill_or_load_that_fails(self):
        self.check_last(BEFORE, (new(0, 77, 0), [0, 100]), (FLUSH, [1, 2, 0, 1, 0]), (fill(), [-4]), (fill(1, 1, 77, 0, 0), [1, 2, 0, 1, 0]),
                        (load("t"), [1, 3, 0]), (ONE, [0, 101]), (row(0, 100), [0, 1, 77, 0]))


class Sixty(LineTest):

    def test_60_and_no_more(self):
        self.check_last([TEXT] + made(59), (ONE, [0, 159]), (ONE, [-10]), (new(1), [-10]))

    def test_those_removed_count(self):
        self.check_last([TEXT] + made(60), (remove(0, 156), [0, 4]), (TABLES, [0, 0, 0]), (ONE, [-10]))

    def test_those_undone_do_not_count(self):
        self.check_last([TEXT] + made(60), (ONE, [-10]), (UNDO, [0]), (ONE, [0, 159]), (ONE, [-10]), (UNDO, [0]), (UNDO, [0]), (ONE, [0, 158]),
                        (ONE, [0, 159]), (ONE, [-10]))

    def test_an_undone_removal_does_not_allow_more(self):
        self.check_last([TEXT] + made(60), (remove(0, 159), [0, 1]), (UNDO, [0]), (ONE, [-10]))

    def test_those_done_again_count(self):
        self.check_last([TEXT] + made(60), (UNDO, [0]), (UNDO, [0]), (REDO, [0]), (ONE, [0, 159]), (ONE, [-10]))
        self.check_last([TEXT] + made(60), (UNDO, [0]), (UNDO, [0]), (REDO, [0]), (REDO, [0]), (ONE, [-10]))

    def test_a_refusal_leaves_what_may_be_done_again(self):
        self.check_last([TEXT] + made(60), (set_(0, 159, 0, 3), [0]), (UNDO, [0]), (ONE, [-10]), (REDO, [0]), (row(0, 159), [0, 1, 3, 156]))

    def test_flush_rollback_fill_and_load_allow_60_again(self):
        for call, answer in ((FLUSH, [0, 4, 4, 0, 156, 1, 0, 157, 2, 0, 158, 3, 0, 159, 4]), (ROLLBACK, [0, 4]), (fill(0, 0), [0]), (TEXT, [0, 2, 2])):
            self.check_last([TEXT] + made(60), (ONE, [-10]), (call, answer), (new(1), [0, 100]), (new(1), [0, 101]))

    def test_a_flush_that_fails_does_not(self):
        self.check_last([TEXT] + made(59) + [new(0, 77, 156)], (FLUSH, [1, 2, 0, 4, 0]), (ONE, [-10]), (UNDO, [0]), (ONE, [0, 159]))

    def test_60_flushed_by_parts(self):
        self.check_last([TEXT] + made(40) + [FLUSH] + made(40), (row(0, 139), [-5]), (ONE, [0, 140]))
