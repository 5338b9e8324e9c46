"""Points 3 and 5: back."""

from tests.helper import HUGE, LineTest, back, fill, list_, load, new, remove, row, set_

TEXT = load("table p { n: number; a: ref p none clear; b: ref q none clear; } table q {}")
ROWS = fill(3, 1, 10, 0, 5, 2, 20, 1, 5, 3, 30, 3, 6, 2, 5, 6)
BEFORE = [TEXT, ROWS]


class Back(LineTest):

    def test_values_as_loaded(self):
        self.check_last(BEFORE, (remove(0, 2), [0, 1]), (back(0, 2), [0, 20, 1, 5]), (row(0, 2), [0, 0, 20, 1, 5]),
                        (list_(0, 1, 0, 1), [0, 1, 2]))

    def test_not_those_it_had_when_removed(self):
        self.check_last(BEFORE, (set_(0, 2, 0, 77), [0]), (set_(0, 2, 2, 0), [0]), (remove(0, 2), [0, 1]), (back(0, 2), [0, 20, 1, 5]),
                        (row(0, 2), [0, 0, 20, 1, 5]))

    def test_a_row_without_values(self):
        self.check_last(BEFORE, (remove(1, 5), [0, 1]), (back(1, 5), [0]), (row(1, 5), [0, 0]))

    def test_references_to_objects_that_are_not_there(self):
        self.check_last(BEFORE, (remove(0, 2), [0, 1]), (remove(0, 1), [0, 1]), (back(0, 2), [0, 20, 0, 5]), (row(0, 2), [0, 2, 20, 0, 5]),
                        (back(0, 1), [0, 10, 0, 5]), (row(0, 1), [0, 0, 10, 0, 5]), (row(0, 2), [0, 2, 20, 0, 5]))
        self.check_last(BEFORE, (remove(0, 2), [0, 1]), (remove(1, 5), [0, 1]), (back(0, 2), [0, 20, 1, 0]), (row(0, 2), [0, 2, 20, 1, 0]))

    def test_where_none_is_not_allowed_too(self):
        self.check_last([load("table p {} table q { n: number; a: ref p cascade; }"), fill(2, 1, 2, 2, 1, 7, 1, 2, 8, 2)],
                        (remove(0, 1), [0, 2]), (back(1, 1), [0, 7, 0]), (row(1, 1), [0, 2, 7, 0]), (row(1, 2), [0, 0, 8, 2]))

    def test_a_reference_to_itself_stays(self):
        self.check_last(BEFORE, (remove(0, 3), [0, 1]), (back(0, 3), [0, 30, 3, 6]), (row(0, 3), [0, 0, 30, 3, 6]))

    def test_a_reference_to_another_table_s_row_with_its_number_is_none(self):
        text = load("table p { a: ref q none clear; b: ref p; } table q {}")
        self.check_last([text, fill(1, 1, 1, 1, 1, 1)], (remove(0, 1), [0, 1]), (remove(1, 1), [0, 1]), (back(0, 1), [0, 0, 1]),
                        (row(0, 1), [0, 2, 0, 1]))

    def test_a_ring_is_broken_where_the_first_one_comes_back(self):
        self.check_last([load("table p { a: ref p cascade; }"), fill(2, 1, 2, 2, 1)], (remove(0, 1), [0, 2]), (back(0, 2), [0, 0]),
                        (back(0, 1), [0, 2]), (row(0, 1), [0, 0, 2]), (row(0, 2), [0, 2, 0]))

    def test_references_to_it_do_not_come_back(self):
        self.check_last(BEFORE, (remove(0, 1), [0, 1]), (row(0, 2), [0, 2, 20, 0, 5]), (back(0, 1), [0, 10, 0, 5]),
                        (row(0, 2), [0, 2, 20, 0, 5]), (list_(0, 1, 0, 1), [0, 0]))

    def test_numbers_stay_what_they_were(self):
        self.check_last([load("table p { n: number; }"), fill(2, 1, -1000000, 2, 1)], (remove(0, 1), [0, 1]), (remove(0, 2), [0, 1]),
                        (back(0, 1), [0, -1000000]), (back(0, 2), [0, 1]))

    def test_it_is_there(self):
        self.check_last(BEFORE, (set_(0, 2, 0, 77), [0]), (back(0, 2), [1]), (row(0, 2), [0, 2, 77, 1, 5]), (back(0, 1), [1]),
                        (remove(0, 2), [0, 1]), (back(0, 2), [0, 20, 1, 5]), (back(0, 2), [1]))

    def test_refusals(self):
        self.check((back(0, 1), [-3]))
        for table in (-1, 2, HUGE, -HUGE):
            self.check_last(BEFORE, (back(table, 1), [-3]))
        for number in (0, -1, 4, 5, 99, 100, HUGE, -HUGE):
            self.check_last(BEFORE, (back(0, number), [-5]))

    def test_new_ones_do_not_come_back(self):
        self.check_last(BEFORE, (new(1), [0, 100]), (back(1, 100), [-5]), (remove(1, 100), [0, 1]), (back(1, 100), [-5]))

    def test_a_full_table(self):
        text = load("table p {} table q {}")
        eight = fill(8, *range(1, 9), 1, 1)
        self.check_last([text, eight, remove(0, 4), remove(1, 1), new(0)], (back(0, 4), [-6]), (back(0, 9), [-5]), (back(0, 5), [1]),
                        (row(0, 4), [-5]), (back(1, 1), [0]), (remove(0, 100), [0, 1]), (back(0, 4), [0]), (row(0, 4), [0, 0]),
                        (new(0), [-6]))

    def test_it_counts_as_a_row(self):
        self.check_last([load("table p {}"), fill(8, *range(1, 9)), remove(0, 1), remove(0, 2)], (back(0, 1), [0]), (new(0), [0, 100]),
                        (back(0, 2), [-6]))

    def test_it_leaves_the_numbers_of_new_ones(self):
        self.check_last(BEFORE, (new(1), [0, 100]), (remove(0, 2), [0, 1]), (back(0, 2), [0, 20, 1, 5]), (new(1), [0, 101]))
