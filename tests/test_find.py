"""Point 3 and "The calls": find."""

from tests.helper import FLUSH, HUGE, ROLLBACK, TABLES, UNDO, LineTest, back, fill, find, load, new, refresh, relist, remove, set_

TEXT = load("table p { n: number; a: ref p none clear; } table q { b: ref p none clear; } table r {}")
ROWS = fill(3, 1, 7, 0, 2, 5, 1, 9, 7, 1, 2, 3, 9, 4, 0, 1, 6)
BEFORE = [TEXT, ROWS]


class Find(LineTest):

    def test_numbers(self):
        self.check_last(BEFORE, (find(0, 0, 7), [0, 2, 1, 9]), (find(0, 0, 5), [0, 1, 2]), (find(0, 0, 6), [0, 0]))

    def test_references(self):
        self.check_last(BEFORE, (find(0, 1, 1), [0, 2, 2, 9]), (find(1, 0, 9), [0, 1, 3]), (find(1, 0, 1), [0, 0]))

    def test_none_is_a_value_too(self):
        self.check_last(BEFORE, (find(0, 1, 0), [0, 1, 1]), (find(1, 0, 0), [0, 1, 4]))

    def test_any_number_may_be_looked_for(self):
        for value in (-1, 99, 100, 1000001, -1000001, HUGE, -HUGE):
            self.check_last(BEFORE, (find(0, 0, value), [0, 0]), (find(0, 1, value), [0, 0]))
        self.check_last([load("table p { a: number; }"), fill(2, 1, -1000000, 2, 1000000)], (find(0, 0, -1000000), [0, 1, 1]),
                        (find(0, 0, 1000000), [0, 1, 2]))

    def test_what_is_now_is_looked_at(self):
        self.check_last(BEFORE, (set_(0, 1, 0, 5), [0]), (find(0, 0, 7), [0, 1, 9]), (find(0, 0, 5), [0, 2, 1, 2]),
                        (refresh(0, 1), [0, 7, 0]), (find(0, 0, 7), [0, 2, 1, 9]), (remove(0, 9), [0, 1]), (find(0, 0, 7), [0, 1, 1]),
                        (find(1, 0, 0), [0, 2, 3, 4]), (back(0, 9), [0, 7, 1]), (find(0, 0, 7), [0, 2, 1, 9]),
                        (relist(0, 2, 1, 0, 4), [0]), (find(1, 0, 2), [0, 1, 4]), (UNDO, [0]), (find(1, 0, 2), [0, 0]),
                        (ROLLBACK, [0, 1]), (find(1, 0, 9), [0, 1, 3]))

    def test_new_ones_stand_behind(self):
        self.check_last(BEFORE, (remove(0, 9), [0, 1]), (new(0, 7, 0), [0, 100]), (new(0, 7, 100), [0, 101]), (back(0, 9), [0, 7, 1]),
                        (find(0, 0, 7), [0, 4, 1, 9, 100, 101]), (find(0, 1, 100), [0, 1, 101]), (FLUSH, [0, 3, 2, 0, 100, 3, 0, 101, 4]),
                        (find(0, 0, 7), [0, 4, 1, 3, 4, 9]), (find(0, 1, 100), [0, 0]), (find(0, 1, 3), [0, 1, 4]))

    def test_numbers_and_references_are_told_apart_by_their_columns(self):
        self.check_last([load("table p { n: number; a: ref p none; }"), fill(2, 1, 2, 0, 2, 0, 2)], (find(0, 0, 2), [0, 1, 1]),
                        (find(0, 1, 2), [0, 1, 2]))

    def test_it_changes_nothing(self):
        self.check_last(BEFORE, (find(0, 0, 7), [0, 2, 1, 9]), (find(0, 0, 7), [0, 2, 1, 9]), (UNDO, [-9]),
                        (TABLES, [0, 3, 1, 7, 0, 2, 5, 1, 9, 7, 1, 2, 3, 9, 4, 0, 1, 6]))


class Refusals(LineTest):

    def test_without_tables(self):
        self.check((find(0, 0, 0), [-3]), (find(-1, 77, HUGE), [-3]))

    def test_no_such_table(self):
        for table in (-1, 3, HUGE, -HUGE):
            self.check_last(BEFORE, (find(table, 0, 7), [-3]))

    def test_no_such_column(self):
        for column in (-1, 2, HUGE, -HUGE):
            self.check_last(BEFORE, (find(0, column, 7), [-7]))
        self.check_last(BEFORE, (find(1, 1, 0), [-7]), (find(2, 0, 0), [-7]))

    def test_what_is_told_first(self):
        self.check_last(BEFORE, (find(3, 77, 7), [-3]), (find(-1, -1, HUGE), [-3]), (find(0, 2, HUGE), [-7]))
