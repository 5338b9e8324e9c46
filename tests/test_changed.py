""""Changed" under "Words": changed."""

from tests.helper import (CHANGED, FLUSH, REDO, ROLLBACK, TABLES, UNDO, LineTest, back, fill, load, new, refresh, relist, remove, row,
                          set_)

TEXT = load("table p { n: number; m: number; a: ref p none clear; } table q { b: ref p none clear; } table r {}")
ROWS = fill(3, 1, 10, 11, 0, 2, 20, 21, 1, 3, 30, 31, 1, 2, 5, 0, 6, 3, 2, 7, 8)
BEFORE = [TEXT, ROWS]


class Changed(LineTest):

    def test_nothing(self):
        self.check((CHANGED, [0, 0]), (load(""), [0, 0, 0]), (CHANGED, [0, 0]))
        self.check_last([TEXT], (CHANGED, [0, 0]))
        self.check_last(BEFORE, (CHANGED, [0, 0]), (CHANGED, [0, 0]))

    def test_new_ones(self):
        self.check_last(BEFORE, (new(1, 0), [0, 100]), (new(0, 1, 2, 0), [0, 101]), (new(1, 5), [1, 0]), (new(1, 0), [0, 102]),
                        (CHANGED, [0, 3, 0, 0, 101, 0, 1, 100, 0, 1, 102]))

    def test_a_new_one_has_no_columns_that_differ(self):
        self.check_last(BEFORE, (new(0, 1, 2, 0), [0, 100]), (set_(0, 100, 0, 5), [0]), (set_(0, 100, 2, 100), [0]),
                        (CHANGED, [0, 1, 0, 0, 100]))

    def test_columns_that_differ(self):
        self.check_last(BEFORE, (set_(0, 2, 1, 7), [0]), (CHANGED, [0, 1, 1, 0, 2, 1, 1]), (set_(0, 2, 0, 8), [0]),
                        (CHANGED, [0, 1, 1, 0, 2, 2, 0, 1]), (set_(0, 2, 2, 0), [0]), (CHANGED, [0, 1, 1, 0, 2, 3, 0, 1, 2]),
                        (set_(0, 2, 1, 21), [0]), (CHANGED, [0, 1, 1, 0, 2, 2, 0, 2]))

    def test_gone_ones(self):
        self.check_last(BEFORE, (remove(2, 8), [0, 1]), (remove(2, 7), [0, 1]), (remove(1, 6), [0, 1]),
                        (CHANGED, [0, 3, 2, 1, 6, 2, 2, 7, 2, 2, 8]))

    def test_by_tables_then_objects_by_numbers_then_gone_ones(self):
        self.check_last(BEFORE, (remove(2, 7), [0, 1]), (new(2), [0, 100]), (set_(1, 6, 0, 0), [0]), (remove(0, 1), [0, 1]),
                        (new(0, 0, 0, 0), [0, 101]), (set_(0, 3, 2, 101), [0]), (remove(1, 5), [0, 1]), (new(1, 0), [0, 102]),
                        (CHANGED, [0, 9, 1, 0, 2, 1, 2, 1, 0, 3, 1, 2, 0, 0, 101, 2, 0, 1,
                                   1, 1, 6, 1, 0, 0, 1, 102, 2, 1, 5, 0, 2, 100, 2, 2, 7]))

    def test_gone_ones_stand_behind_objects_with_greater_numbers(self):
        self.check_last(BEFORE, (remove(1, 5), [0, 1]), (set_(1, 6, 0, 1), [0]), (CHANGED, [0, 2, 1, 1, 6, 1, 0, 2, 1, 5]))

    def test_references_that_a_removal_cleared(self):
        self.check_last(BEFORE, (remove(0, 3), [0, 1]), (CHANGED, [0, 2, 2, 0, 3, 1, 1, 6, 1, 0]))

    def test_references_that_another_list_changed(self):
        self.check_last(BEFORE, (relist(0, 1, 0, 2, 3, 1), [0]), (CHANGED, [0, 2, 1, 0, 1, 1, 2, 1, 0, 2, 1, 2]))

    def test_what_is_set_to_what_it_was_is_not_changed(self):
        self.check_last(BEFORE, (set_(0, 1, 0, 10), [0]), (relist(0, 1, 0, 2, 2, 3), [0]), (CHANGED, [0, 0]))

    def test_what_is_changed_back_is_not_changed(self):
        self.check_last(BEFORE, (set_(0, 1, 0, 5), [0]), (set_(0, 1, 0, 10), [0]), (CHANGED, [0, 0]), (relist(0, 1, 0, 2), [0]),
                        (relist(0, 1, 0, 2, 2, 3), [0]), (CHANGED, [0, 0]), (set_(0, 1, 1, 5), [0]), (refresh(0, 1), [0, 10, 11, 0]),
                        (CHANGED, [0, 0]))

    def test_an_object_removed_and_brought_back(self):
        self.check_last(BEFORE, (remove(0, 2), [0, 1]), (CHANGED, [0, 1, 2, 0, 2]), (back(0, 2), [0, 20, 21, 1]), (CHANGED, [0, 0]))
        self.check_last(BEFORE, (set_(0, 2, 0, 5), [0]), (remove(0, 2), [0, 1]), (CHANGED, [0, 1, 2, 0, 2]), (back(0, 2), [0, 20, 21, 1]),
                        (CHANGED, [0, 0]))

    def test_one_brought_back_without_those_it_referred_to(self):
        self.check_last(BEFORE, (remove(0, 2), [0, 1]), (remove(0, 1), [0, 1]), (back(0, 2), [0, 20, 21, 0]),
                        (CHANGED, [0, 3, 1, 0, 2, 1, 2, 1, 0, 3, 1, 2, 2, 0, 1]))

    def test_references_to_one_brought_back_stay_changed(self):
        self.check_last(BEFORE, (remove(0, 3), [0, 1]), (back(0, 3), [0, 30, 31, 1]), (CHANGED, [0, 1, 1, 1, 6, 1, 0]))

    def test_a_new_one_that_is_removed_again(self):
        self.check_last(BEFORE, (new(2), [0, 100]), (remove(2, 100), [0, 1]), (CHANGED, [0, 0]))

    def test_behind_undo_and_redo(self):
        self.check_last(BEFORE, (set_(0, 1, 0, 5), [0]), (new(2), [0, 100]), (UNDO, [0]), (CHANGED, [0, 1, 1, 0, 1, 1, 0]), (UNDO, [0]),
                        (CHANGED, [0, 0]), (REDO, [0]), (REDO, [0]), (CHANGED, [0, 2, 1, 0, 1, 1, 0, 0, 2, 100]))

    def test_behind_flush_rollback_fill_and_load(self):
        deeds = [set_(0, 1, 0, 5), new(2), remove(1, 5)]
        self.check_last(BEFORE + deeds, (CHANGED, [0, 3, 1, 0, 1, 1, 0, 2, 1, 5, 0, 2, 100]), (FLUSH, [0, 3, 1, 2, 100, 1]), (CHANGED, [0, 0]))
        self.check_last(BEFORE + deeds, (ROLLBACK, [0, 3]), (CHANGED, [0, 0]))
        self.check_last(BEFORE + deeds, (ROWS, [0]), (CHANGED, [0, 0]))
        self.check_last(BEFORE + deeds, (TEXT, [0, 3, 4]), (CHANGED, [0, 0]))

    def test_against_what_was_flushed_last(self):
        self.check_last(BEFORE + [set_(0, 1, 0, 5), FLUSH], (set_(0, 1, 0, 10), [0]), (CHANGED, [0, 1, 1, 0, 1, 1, 0]),
                        (set_(0, 1, 0, 5), [0]), (CHANGED, [0, 0]))

    def test_gone_ones_by_ids_whenever_they_came(self):
        self.check_last([load("table p {}"), fill(1, 5), new(0), FLUSH], (remove(0, 1), [0, 1]), (remove(0, 5), [0, 1]),
                        (CHANGED, [0, 2, 2, 0, 1, 2, 0, 5]))

    def test_it_changes_nothing(self):
        self.check_last(BEFORE + [set_(0, 1, 0, 5), UNDO], (CHANGED, [0, 0]), (REDO, [0]), (CHANGED, [0, 1, 1, 0, 1, 1, 0]),
                        (row(0, 1), [0, 2, 5, 11, 0]), (UNDO, [0]), (TABLES, [0] + ROWS[2:]))
