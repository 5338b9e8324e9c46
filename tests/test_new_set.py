"""Points 3 and 4: new and set, and which values can be set."""

from tests.helper import HUGE, LineTest, fill, list_, load, new, remove, row, set_

TEXT = load("table p { a: number from 0 to 9 unique; b: ref q; } table q { c: number; } table r {}")
ROWS = fill(1, 5, 3, 8, 1, 8, 0, 0)
BEFORE = [TEXT, ROWS]


class New(LineTest):

    def test_numbers_rise_over_all_tables(self):
        self.check_last(BEFORE, (new(0, 4, 8), [0, 100]), (new(1, -3), [0, 101]), (new(2), [0, 102]), (new(0, 5, 101), [0, 103]),
                        (row(0, 100), [0, 1, 4, 8]), (row(1, 101), [0, 1, -3]), (row(2, 102), [0, 1]),
                        (row(0, 103), [0, 1, 5, 101]), (row(0, 5), [0, 0, 3, 8]), (row(1, 100), [-5]), (row(0, 101), [-5]))

    def test_no_such_table(self):
        self.check((new(0), [-3]))
        for table in (-1, 3, HUGE, -HUGE):
            self.check_last(BEFORE, (new(table, 1, 8), [-3]), (new(0, 4, 0), [0, 100]))

    def test_as_many_values_as_columns(self):
        self.check_last(BEFORE, (new(0), [-7]), (new(0, 1), [-7]), (new(0, 1, 8, 1), [-7]), (new(2, 0), [-7]),
                        (new(0, *[0] * 5000), [-7]), (new(0, 4, 0), [0, 100]))

    def test_8_rows(self):
        eight = fill(0, 0, 8, *range(1, 9))
        self.check_last([TEXT, eight], (new(2), [-6]), (new(1, 0), [0, 100]), (remove(2, 4), [0, 1]), (new(2), [0, 101]),
                        (new(2), [-6]), (new(1, 0), [0, 102]))
        self.check_last([TEXT] + [new(1, 0)] * 8, (new(1, 0), [-6]), (row(1, 107), [0, 1, 0]), (row(1, 108), [-5]))

    def made_60(self):
        """Calls that make 60 objects; all but the last 4 of them are removed again, 8 at a time."""
        calls = [load("table p { a: ref p none cascade; }")]
        for first in range(100, 156, 8):
            calls += [new(0, 0)] + [new(0, first)] * 7 + [remove(0, first)]
        return calls + [new(0, 0)] + [new(0, 156)] * 3

    def test_60_new_objects_at_most(self):
        before = self.made_60()
        self.check_last(before, (row(0, 159), [0, 1, 156]), (row(0, 160), [-5]), (new(0, 0), [-10]), (new(0, 0), [-10]),
                        (new(0, 77), [-10]), (remove(0, 156), [0, 4]), (new(0, 0), [-10]))

    def test_load_and_fill_allow_60_again(self):
        before = self.made_60()
        self.check_last(before, (new(0, 0), [-10]), (fill(0), [0]), (new(0, 0), [0, 100]), (new(0, 0), [0, 101]))
        self.check_last(before, (new(0, 0), [-10]), (load("table p {}"), [0, 1, 0]), (new(0), [0, 100]), (new(0), [0, 101]))

    def test_fills_and_loads_that_fail_do_not(self):
        self.check_last(self.made_60(), (fill(1), [-4]), (fill(1, 1, 2), [1, 3, 0, 1, 0]), (load("?"), [1, 1, 0]), (new(0, 0), [-10]))

    def test_59_new_objects_allow_one_more(self):
        self.check_last(self.made_60()[:-1], (new(0, 0), [0, 159]), (new(0, 0), [-10]))

    def test_what_is_told_first(self):
        full = self.made_60() + [fill(8, *[number for each in range(1, 9) for number in (each, 0)])]
        self.check_last(full, (new(1), [-3]), (new(0), [-7]), (new(0, 77), [-6]))
        # 60 made, and a full table.
        calls = self.made_60()
        calls[0] = load("table p { a: ref p none cascade; } table q {}")
        calls.insert(1, fill(0, 8, *range(1, 9)))
        self.check_last(calls, (new(2, 5), [-3]), (new(1, 5), [-7]), (new(1), [-6]), (new(0, 77), [-10]), (new(0), [-7]))

    def test_the_first_value_that_can_not_be_set(self):
        self.check_last(BEFORE, (new(0, 1000001, 9), [1, 0]), (new(0, 1, 9), [1, 1]), (new(0, 1000001, 8), [1, 0]),
                        (new(1, -1000001), [1, 0]), (new(0, 1, 5), [1, 1]), (new(0, 4, 0), [0, 100]))

    def test_an_object_is_not_there_before_it_is_made(self):
        self.check_last([load("table p { a: ref p none; }")], (new(0, 100), [1, 0]), (new(0, 0), [0, 100]), (new(0, 100), [0, 101]),
                        (new(0, 102), [1, 0]))

    def test_other_rules_are_not_looked_at(self):
        # Out of range, the same value twice, and none where none isn't allowed.
        self.check_last(BEFORE, (new(0, 70, 0), [0, 100]), (new(0, 3, 8), [0, 101]), (row(0, 100), [0, 1, 70, 0]),
                        (row(0, 101), [0, 1, 3, 8]))

    def test_numbers_of_removed_ones_are_not_used_again(self):
        self.check_last(BEFORE, (new(2), [0, 100]), (remove(2, 100), [0, 1]), (new(2), [0, 101]), (row(2, 100), [-5]))


class Values(LineTest):

    def check_values(self, column, loaded, good, bad):
        """By set and by new, for what is put into the one column of table 0, where 5 is loaded and 100 is new."""
        text = load("table p { a: " + column + "; } table q { c: number; }")
        before = [text, fill(1, 5, loaded, 1, 8, 0), new(0, 0), new(1, 0)]
        for value in good:
            standing = 0 if value == loaded else 2
            self.check_last(before, (set_(0, 5, 0, value), [0]), (row(0, 5), [0, standing, value]),
                            (set_(0, 100, 0, value), [0]), (row(0, 100), [0, 1, value]),
                            (new(0, value), [0, 102]), (row(0, 102), [0, 1, value]))
        for value in bad:
            self.check_last(before, (set_(0, 5, 0, value), [1]), (row(0, 5), [0, 0, loaded]),
                            (set_(0, 100, 0, value), [1]), (row(0, 100), [0, 1, 0]),
                            (new(0, value), [1, 0]), (row(0, 102), [-5]), (new(0, 0), [0, 102]))

    def test_numbers(self):
        good = (0, 1, -1, 9, 1000000, -1000000)
        bad = (1000001, -1000001, HUGE, -HUGE)
        self.check_values("number", 0, good, bad)
        self.check_values("number from 0 to 1 unique", 1, good, bad)

    def test_references(self):
        self.check_values("ref q", 8, (0, 8, 101), (1, 5, 100, 102, -1, -8, HUGE, -HUGE))
        self.check_values("ref q none unique", 0, (0, 8, 101), (1, 5, 100, 102, -1))
        self.check_values("ref p", 5, (0, 5, 100), (1, 8, 101, 103, -5))
        self.check_values("ref p none clear", 0, (0, 5, 100), (8, 101))

    def test_objects_that_were_removed(self):
        self.check_last([load("table p { a: ref p none; }"), fill(2, 5, 0, 6, 0), new(0, 0), remove(0, 6), remove(0, 100)],
                        (set_(0, 5, 0, 6), [1]), (set_(0, 5, 0, 100), [1]), (new(0, 6), [1, 0]), (new(0, 100), [1, 0]),
                        (row(0, 5), [0, 0, 0]))


class Set(LineTest):

    def test_ordinary(self):
        self.check_last(BEFORE, (set_(0, 5, 0, 7), [0]), (row(0, 5), [0, 2, 7, 8]), (set_(0, 5, 1, 0), [0]),
                        (row(0, 5), [0, 2, 7, 0]), (list_(1, 8, 0, 1), [0, 0]), (row(1, 8), [0, 0, 0]))

    def test_what_is_there_already(self):
        self.check_last(BEFORE, (set_(0, 5, 0, 3), [0]), (row(0, 5), [0, 0, 3, 8]))

    def test_one_object_s_column_alone(self):
        self.check_last([load("table p { a: number; b: number; } table q { a: number; }"), fill(2, 1, 1, 2, 2, 3, 4, 1, 1, 5)],
                        (set_(0, 1, 1, 9), [0]), (row(0, 1), [0, 2, 1, 9]), (row(0, 2), [0, 0, 3, 4]), (row(1, 1), [0, 0, 5]))

    def test_refusals(self):
        for number in (-1, 3, HUGE, -HUGE):
            self.check_last(BEFORE, (set_(number, 5, 0, 1), [-3]))
        for number in (0, -1, 8, 4, 100, HUGE, -HUGE):
            self.check_last(BEFORE, (set_(0, number, 0, 1), [-5]))
        for number in (-1, 2, HUGE, -HUGE):
            self.check_last(BEFORE, (set_(0, 5, number, 1), [-7]), (row(0, 5), [0, 0, 3, 8]))
        self.check_last(BEFORE, (set_(1, 8, 1, 0), [-7]))
        self.check((set_(0, 5, 0, 1), [-3]))

    def test_what_is_told_first(self):
        self.check_last(BEFORE, (set_(3, 4, 2, HUGE), [-3]), (set_(0, 4, 2, HUGE), [-5]), (set_(0, 5, 2, HUGE), [-7]),
                        (set_(0, 5, 0, HUGE), [1]), (set_(2, 1, 0, 0), [-5]))

    def test_a_removed_object_can_not_be_set(self):
        self.check_last(BEFORE + [remove(0, 5)], (set_(0, 5, 0, 1), [-5]))
