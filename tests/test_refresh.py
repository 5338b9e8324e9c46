"""Points 3 and 5: refresh."""

from tests.helper import (CHANGED, FLUSH, HUGE, LineTest, UNDO, back, fill, list_, load, new, refresh, relist, remove, row, set_)

TEXT = load("table p { n: number; a: ref p none clear; b: ref q none clear; } table q {}")
ROWS = fill(3, 1, 10, 0, 5, 2, 20, 1, 5, 3, 30, 3, 6, 2, 5, 6)
BEFORE = [TEXT, ROWS]


class Refresh(LineTest):

    def test_values_as_loaded(self):
        self.check_last(BEFORE, (set_(0, 2, 0, 77), [0]), (set_(0, 2, 1, 3), [0]), (set_(0, 2, 2, 0), [0]), (refresh(0, 2), [0, 20, 1, 5]),
                        (row(0, 2), [0, 0, 20, 1, 5]), (list_(0, 1, 0, 1), [0, 1, 2]), (list_(0, 3, 0, 1), [0, 1, 3]))

    def test_one_object_alone(self):
        self.check_last(BEFORE, (set_(0, 1, 0, 7), [0]), (set_(0, 2, 0, 8), [0]), (refresh(0, 2), [0, 20, 1, 5]), (row(0, 1), [0, 2, 7, 0, 5]),
                        (CHANGED, [0, 1, 1, 0, 1, 1, 0]))

    def test_references_to_objects_that_are_not_there(self):
        self.check_last(BEFORE, (set_(0, 2, 0, 77), [0]), (remove(0, 1), [0, 1]), (refresh(0, 2), [0, 20, 0, 5]), (row(0, 2), [0, 2, 20, 0, 5]),
                        (remove(1, 5), [0, 1]), (refresh(0, 2), [0, 20, 0, 0]), (row(0, 2), [0, 2, 20, 0, 0]))

    def test_references_to_objects_that_are_there_again(self):
        self.check_last(BEFORE, (remove(0, 1), [0, 1]), (row(0, 2), [0, 2, 20, 0, 5]), (back(0, 1), [0, 10, 0, 5]),
                        (refresh(0, 2), [0, 20, 1, 5]), (row(0, 2), [0, 0, 20, 1, 5]))

    def test_where_none_is_not_allowed_too(self):
        text = load("table p {} table q { n: number; a: ref p; }")
        self.check_last([text, fill(2, 1, 2, 1, 4, 9, 1)], (set_(1, 4, 1, 2), [0]), (remove(0, 1), [0, 1]), (refresh(1, 4), [0, 9, 0]),
                        (row(1, 4), [0, 2, 9, 0]), (FLUSH, [1, 3, 1, 4, 1]))

    def test_a_reference_to_itself(self):
        self.check_last(BEFORE, (set_(0, 3, 1, 0), [0]), (refresh(0, 3), [0, 30, 3, 6]), (row(0, 3), [0, 0, 30, 3, 6]))
        self.check_last(BEFORE, (remove(1, 6), [0, 1]), (set_(0, 3, 1, 1), [0]), (refresh(0, 3), [0, 30, 3, 0]))

    def test_a_reference_to_another_table_s_row_with_its_number_is_none(self):
        self.check_last([load("table p { n: number; a: ref q none clear; } table q {}"), fill(1, 1, 4, 1, 1, 1)], (remove(1, 1), [0, 1]),
                        (set_(0, 1, 0, 5), [0]), (refresh(0, 1), [0, 4, 0]), (row(0, 1), [0, 2, 4, 0]))

    def test_references_to_new_ones_go(self):
        self.check_last(BEFORE, (new(1), [0, 100]), (set_(0, 2, 2, 100), [0]), (refresh(0, 2), [0, 20, 1, 5]), (list_(1, 100, 0, 2), [0, 0]))

    def test_numbers_that_look_like_those_that_are_gone_stay(self):
        self.check_last([load("table p { n: number; }"), fill(2, 1, 2, 2, 0)], (remove(0, 2), [0, 1]), (set_(0, 1, 0, 5), [0]),
                        (refresh(0, 1), [0, 2]), (row(0, 1), [0, 0, 2]))

    def test_what_can_not_be_as_loaded_is_refreshed_each_time(self):
        self.check_last(BEFORE, (remove(0, 1), [0, 1]), (refresh(0, 2), [0, 20, 0, 5]), (refresh(0, 2), [0, 20, 0, 5]), (UNDO, [0]), (UNDO, [0]),
                        (row(0, 1), [-5]), (UNDO, [0]), (row(0, 1), [0, 0, 10, 0, 5]), (UNDO, [-9]))

    def test_it_is_new(self):
        self.check_last(BEFORE, (new(0, 1, 2, 5), [0, 100]), (refresh(0, 100), [1]), (row(0, 100), [0, 1, 1, 2, 5]), (new(1), [0, 101]),
                        (refresh(1, 101), [1]))

    def test_it_is_as_loaded(self):
        self.check_last(BEFORE, (refresh(0, 1), [2]), (refresh(0, 3), [2]), (refresh(1, 5), [2]), (set_(0, 1, 0, 10), [0]), (refresh(0, 1), [2]),
                        (set_(0, 1, 0, 11), [0]), (refresh(0, 1), [0, 10, 0, 5]), (refresh(0, 1), [2]))

    def test_as_loaded_by_the_last_flush(self):
        self.check_last(BEFORE + [set_(0, 1, 0, 11), new(1), relist(1, 100, 0, 2, 1), FLUSH], (refresh(0, 1), [2]), (refresh(1, 1), [2]),
                        (refresh(1, 100), [-5]), (set_(0, 1, 0, 10), [0]), (set_(0, 1, 2, 5), [0]), (refresh(0, 1), [0, 11, 0, 1]))


class Refusals(LineTest):

    def test_without_tables(self):
        self.check((refresh(0, 1), [-3]), (refresh(-1, -1), [-3]))

    def test_no_such_table(self):
        for table in (-1, 2, HUGE, -HUGE):
            self.check_last(BEFORE, (refresh(table, 1), [-3]), (refresh(table, 77), [-3]))

    def test_no_such_object(self):
        for number in (0, -1, 4, 5, 99, 100, HUGE, -HUGE):
            self.check_last(BEFORE, (refresh(0, number), [-5]))

    def test_one_that_is_gone(self):
        self.check_last(BEFORE, (remove(0, 2), [0, 1]), (refresh(0, 2), [-5]), (row(0, 2), [-5]), (new(1), [0, 100]), (remove(1, 100), [0, 1]),
                        (refresh(1, 100), [-5]))
