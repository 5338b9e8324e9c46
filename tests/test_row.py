"""Point 3 and "The calls": row."""

from tests.helper import HUGE, LineTest, back, fill, load, new, remove, row, set_

BEFORE = [load("table p { a: number; b: ref q none clear; } table q {}"), fill(2, 1, -5, 3, 99, 7, 0, 1, 3)]


class Row(LineTest):

    def test_as_loaded(self):
        self.check_last(BEFORE, (row(0, 1), [0, 0, -5, 3]), (row(0, 99), [0, 0, 7, 0]), (row(1, 3), [0, 0]))

    def test_new(self):
        self.check_last(BEFORE, (new(0, -5, 3), [0, 100]), (row(0, 100), [0, 1, -5, 3]), (set_(0, 100, 0, 6), [0]), (row(0, 100), [0, 1, 6, 3]),
                        (new(1), [0, 101]), (row(1, 101), [0, 1]))

    def test_changed(self):
        self.check_last(BEFORE, (set_(0, 1, 0, 4), [0]), (row(0, 1), [0, 2, 4, 3]), (row(0, 99), [0, 0, 7, 0]))
        self.check_last(BEFORE, (remove(1, 3), [0, 1]), (row(0, 1), [0, 2, -5, 0]))

    def test_what_is_changed_back_is_as_loaded(self):
        self.check_last(BEFORE, (set_(0, 1, 0, 4), [0]), (set_(0, 1, 0, -5), [0]), (row(0, 1), [0, 0, -5, 3]), (remove(0, 1), [0, 1]),
                        (back(0, 1), [0, -5, 3]), (row(0, 1), [0, 0, -5, 3]))

    def test_refusals(self):
        self.check((row(0, 1), [-3]), (row(-1, 1), [-3]))
        for table in (-1, 2, HUGE, -HUGE):
            self.check_last(BEFORE, (row(table, 1), [-3]), (row(table, 77), [-3]))
        for number in (0, -1, 2, 3, 98, 100, HUGE, -HUGE):
            self.check_last(BEFORE, (row(0, number), [-5]))
        self.check_last(BEFORE, (remove(0, 1), [0, 1]), (row(0, 1), [-5]))
