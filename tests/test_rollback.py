"""Point 7: rollback."""

from tests.helper import (CHANGED, FLUSH, REDO, ROLLBACK, TABLES, UNDO, LineTest, back, fill, load, new, refresh, relist, remove, row, set_)

TEXT = load("table p { n: number from 0 to 9 unique; a: ref p none clear; } table q { b: ref p none clear; }")
ROWS = fill(2, 1, 5, 0, 2, 6, 1, 2, 3, 2, 4, 0)
BEFORE = [TEXT, ROWS]
LOADED = [0, *ROWS[2:]]


class Rollback(LineTest):

    def test_without_tables(self):
        self.check((ROLLBACK, [0, 0]), (TABLES, [0]), (load(""), [0, 0, 0]), (ROLLBACK, [0, 0]))

    def test_tables_without_rows(self):
        self.check_last([TEXT], (ROLLBACK, [0, 0]), (new(0, 1, 0), [0, 100]), (ROLLBACK, [0, 1]), (TABLES, [0, 0, 0]))

    def test_nothing_changed(self):
        self.check_last(BEFORE, (ROLLBACK, [0, 0]), (TABLES, LOADED), (set_(0, 1, 0, 5), [0]), (ROLLBACK, [0, 0]), (TABLES, LOADED))

    def test_each_kind_of_change(self):
        self.check_last(BEFORE, (set_(0, 1, 0, 7), [0]), (set_(0, 1, 1, 1), [0]), (ROLLBACK, [0, 1]), (TABLES, LOADED), (CHANGED, [0, 0]))
        self.check_last(BEFORE, (new(0, 7, 1), [0, 100]), (ROLLBACK, [0, 1]), (TABLES, LOADED), (row(0, 100), [-5]))
        self.check_last(BEFORE, (remove(1, 4), [0, 1]), (ROLLBACK, [0, 1]), (TABLES, LOADED), (row(1, 4), [0, 0, 0]))

    def test_as_many_as_changed_tells(self):
        self.check_last(BEFORE, (new(1, 1), [0, 100]), (remove(0, 2), [0, 1]), (set_(0, 1, 0, 0), [0]), (relist(0, 1, 1, 0, 4), [0]),
                        (CHANGED, [0, 5, 1, 0, 1, 1, 0, 2, 0, 2, 1, 1, 3, 1, 0, 1, 1, 4, 1, 0, 0, 1, 100]), (ROLLBACK, [0, 5]),
                        (TABLES, LOADED), (ROLLBACK, [0, 0]))

    def test_what_is_changed_back_does_not_count(self):
        self.check_last(BEFORE, (set_(0, 1, 0, 7), [0]), (refresh(0, 1), [0, 5, 0]), (remove(1, 3), [0, 1]), (back(1, 3), [0, 2]),
                        (new(1, 0), [0, 100]), (remove(1, 100), [0, 1]), (set_(0, 2, 0, 7), [0]), (UNDO, [0]), (ROLLBACK, [0, 0]))

    def test_with_rules_broken_too(self):
        self.check_last(BEFORE, (set_(0, 1, 0, 77), [0]), (set_(0, 2, 0, 77), [0]), (FLUSH, [1, 2, 0, 1, 0]), (ROLLBACK, [0, 2]), (TABLES, LOADED),
                        (FLUSH, [0, 0, 0]))

    def test_nothing_to_be_undone_or_done_again(self):
        self.check_last(BEFORE, (set_(0, 1, 0, 7), [0]), (set_(0, 1, 0, 8), [0]), (UNDO, [0]), (ROLLBACK, [0, 1]), (UNDO, [-9]), (REDO, [-9]),
                        (TABLES, LOADED))

    def test_to_what_was_flushed_last(self):
        self.check_last(BEFORE, (set_(0, 1, 0, 7), [0]), (new(1, 1), [0, 100]), (FLUSH, [0, 2, 1, 1, 100, 1]), (set_(0, 1, 0, 5), [0]),
                        (remove(1, 1), [0, 1]), (ROLLBACK, [0, 2]), (TABLES, [0, 2, 1, 7, 0, 2, 6, 1, 3, 1, 1, 3, 2, 4, 0]))

    def test_changes_behind_it(self):
        self.check_last(BEFORE, (set_(0, 1, 0, 7), [0]), (ROLLBACK, [0, 1]), (set_(0, 1, 0, 8), [0]), (CHANGED, [0, 1, 1, 0, 1, 1, 0]), (UNDO, [0]),
                        (TABLES, LOADED), (back(0, 1), [1]), (refresh(0, 1), [2]))
