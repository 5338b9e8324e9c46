"""Points 3 and 6: list and relist."""

from tests.helper import HUGE, LineTest, back, fill, list_, load, new, relist, remove, row, set_

TEXT = load("table p { n: number; a: ref p none; } table q { b: ref p; c: ref q none clear; d: ref p none; }")
# p: 1 to 4, q: 1, 5 and 6.
ROWS = fill(4, 1, 0, 0, 2, 1, 1, 3, 1, 1, 4, 1, 4, 3, 1, 2, 0, 1, 5, 1, 5, 0, 6, 1, 1, 2)
BEFORE = [TEXT, ROWS]


class List(LineTest):

    def test_ordinary(self):
        self.check_last(BEFORE, (list_(0, 1, 0, 1), [0, 2, 2, 3]), (list_(0, 2, 0, 1), [0, 0]), (list_(0, 4, 0, 1), [0, 1, 4]),
                        (list_(0, 1, 1, 0), [0, 2, 5, 6]), (list_(0, 2, 1, 0), [0, 1, 1]), (list_(0, 1, 1, 2), [0, 1, 1]),
                        (list_(1, 1, 1, 1), [0, 1, 6]), (list_(1, 5, 1, 1), [0, 1, 5]), (list_(1, 6, 1, 1), [0, 0]))

    def test_numbers_that_look_like_it_are_not_references(self):
        self.check_last(BEFORE, (list_(0, 1, 0, 0), [-8]))

    def test_what_is_set_is_seen_from_the_other_side(self):
        self.check_last(BEFORE, (set_(0, 3, 1, 2), [0]), (list_(0, 1, 0, 1), [0, 1, 2]), (list_(0, 2, 0, 1), [0, 1, 3]))

    def test_new_ones_stand_behind(self):
        self.check_last(BEFORE, (new(0, 0, 1), [0, 100]), (remove(0, 2), [1, 1, 1, 0]), (remove(0, 3), [0, 1]), (new(0, 0, 1), [0, 101]),
                        (back(0, 3), [0, 1, 1]), (list_(0, 1, 0, 1), [0, 4, 2, 3, 100, 101]), (list_(0, 100, 0, 1), [0, 0]),
                        (set_(0, 1, 1, 100), [0]), (list_(0, 100, 0, 1), [0, 1, 1]))

    def test_removed_ones_are_gone(self):
        self.check_last(BEFORE, (remove(1, 5), [0, 1]), (list_(0, 1, 1, 0), [0, 1, 6]))

    def test_it_changes_nothing(self):
        self.check_last(BEFORE, (list_(0, 1, 0, 1), [0, 2, 2, 3]), (list_(0, 1, 0, 1), [0, 2, 2, 3]), (row(0, 2), [0, 0, 1, 1]))


class Refusals(LineTest):
    """Of list, and of relist, which has the same ones."""

    def check_both(self, table, number, other, column, refusal):
        self.check_last(BEFORE, (list_(table, number, other, column), [refusal]), (relist(table, number, other, column), [refusal]),
                        (relist(table, number, other, column, 77), [refusal]), (relist(table, number, other, column, 1), [refusal]))

    def test_without_tables(self):
        self.check((list_(0, 0, 0, 0), [-3]), (relist(0, 0, 0, 0), [-3]))

    def test_no_such_table(self):
        for table in (-1, 2, HUGE, -HUGE):
            self.check_both(table, 1, 0, 1, -3)
            self.check_both(table, 77, table, 77, -3)

    def test_no_such_object(self):
        for number in (0, -1, 5, 6, 100, HUGE, -HUGE):
            self.check_both(0, number, 0, 1, -5)
            self.check_both(0, number, 2, 77, -5)
            self.check_both(0, number, 0, 77, -5)
            self.check_both(0, number, 0, 0, -5)

    def test_no_such_other_table(self):
        for table in (-1, 2, HUGE, -HUGE):
            self.check_both(0, 1, table, 0, -3)
            self.check_both(0, 1, table, 77, -3)

    def test_no_such_column(self):
        for column in (-1, 2, HUGE, -HUGE):
            self.check_both(0, 1, 0, column, -7)
        self.check_both(0, 1, 1, 3, -7)
        self.check_both(1, 1, 0, 2, -7)

    def test_a_column_that_does_not_refer_there(self):
        self.check_both(0, 1, 0, 0, -8)
        self.check_both(0, 1, 1, 1, -8)
        self.check_both(1, 1, 0, 0, -8)
        self.check_both(1, 1, 0, 1, -8)
        self.check_both(1, 1, 1, 0, -8)


class Relist(LineTest):

    def test_those_named_refer_to_it_and_others_to_none(self):
        self.check_last(BEFORE, (relist(0, 1, 0, 1, 4, 3), [0]), (list_(0, 1, 0, 1), [0, 2, 3, 4]), (row(0, 2), [0, 2, 1, 0]),
                        (row(0, 3), [0, 0, 1, 1]), (row(0, 4), [0, 2, 1, 1]), (list_(0, 4, 0, 1), [0, 0]), (row(0, 1), [0, 0, 0, 0]))

    def test_other_columns_and_tables_stay(self):
        self.check_last(BEFORE, (relist(0, 1, 1, 2, 5, 6), [0]), (row(1, 1), [0, 2, 2, 0, 0]), (row(1, 5), [0, 2, 1, 5, 1]),
                        (row(1, 6), [0, 2, 1, 1, 1]), (list_(0, 1, 1, 0), [0, 2, 5, 6]), (list_(0, 1, 0, 1), [0, 2, 2, 3]),
                        (list_(0, 2, 1, 2), [0, 0]), (row(0, 2), [0, 0, 1, 1]))

    def test_the_empty_list(self):
        self.check_last(BEFORE, (relist(0, 1, 0, 1), [0]), (list_(0, 1, 0, 1), [0, 0]), (row(0, 2), [0, 2, 1, 0]), (row(0, 3), [0, 2, 1, 0]),
                        (row(0, 4), [0, 0, 1, 4]), (relist(0, 1, 0, 1), [0]))

    def test_the_list_it_has(self):
        self.check_last(BEFORE, (relist(0, 1, 0, 1, 3, 2), [0]), (row(0, 2), [0, 0, 1, 1]), (row(0, 3), [0, 0, 1, 1]))

    def test_an_object_named_twice(self):
        self.check_last(BEFORE, (relist(0, 1, 0, 1, 4, 2, 4, 2, 4), [0]), (list_(0, 1, 0, 1), [0, 2, 2, 4]), (row(0, 4), [0, 2, 1, 1]),
                        (row(0, 3), [0, 2, 1, 0]))
        self.check_last(BEFORE, (relist(0, 1, 0, 1, *[4] * 5000), [0]), (list_(0, 1, 0, 1), [0, 1, 4]))

    def test_the_object_itself(self):
        self.check_last(BEFORE, (relist(0, 1, 0, 1, 1), [0]), (list_(0, 1, 0, 1), [0, 1, 1]), (row(0, 1), [0, 2, 0, 1]),
                        (row(0, 2), [0, 2, 1, 0]))
        self.check_last(BEFORE, (relist(0, 4, 0, 1, 1), [0]), (list_(0, 4, 0, 1), [0, 1, 1]), (row(0, 4), [0, 2, 1, 0]))

    def test_new_ones(self):
        self.check_last(BEFORE, (new(0, 5, 0), [0, 100]), (relist(0, 100, 0, 1, 100, 2), [0]), (list_(0, 100, 0, 1), [0, 2, 2, 100]),
                        (row(0, 100), [0, 1, 5, 100]), (row(0, 2), [0, 2, 1, 100]), (list_(0, 1, 0, 1), [0, 1, 3]))

    def test_refused_where_none_is_not_allowed(self):
        self.check_last(BEFORE, (relist(0, 1, 1, 0), [1, 5]), (relist(0, 1, 1, 0, 5), [1, 6]), (relist(0, 1, 1, 0, 6, 1), [1, 5]),
                        (list_(0, 1, 1, 0), [0, 2, 5, 6]), (row(1, 1), [0, 0, 2, 0, 1]), (row(1, 5), [0, 0, 1, 5, 0]))

    def test_not_refused_if_all_are_named(self):
        self.check_last(BEFORE, (relist(0, 1, 1, 0, 6, 5), [0]), (relist(0, 1, 1, 0, 1, 6, 5), [0]), (list_(0, 1, 1, 0), [0, 3, 1, 5, 6]),
                        (list_(0, 2, 1, 0), [0, 0]), (relist(0, 2, 1, 0, 5), [0]), (list_(0, 1, 1, 0), [0, 2, 1, 6]),
                        (relist(0, 3, 1, 0), [0]))

    def test_the_first_one_refused_is_that_with_the_least_number(self):
        self.check_last([load("table p {} table q { a: ref p; }"), fill(1, 1, 3, 2, 1, 3, 1, 4, 1), remove(1, 2), new(1, 1), back(1, 2)],
                        (relist(0, 1, 1, 0), [1, 2]), (relist(0, 1, 1, 0, 2, 4), [1, 3]), (relist(0, 1, 1, 0, 3, 2, 4), [1, 100]))

    def test_cascade_columns_without_none_refuse_too(self):
        self.check_last([load("table p {} table q { a: ref p cascade; b: ref p none cascade; }"), fill(1, 1, 1, 2, 1, 1)],
                        (relist(0, 1, 1, 0), [1, 2]), (relist(0, 1, 1, 1), [0]), (row(1, 2), [0, 2, 1, 0]))

    def test_what_is_no_object_of_the_other_table(self):
        for number in (0, -1, 2, 3, 100, HUGE, -HUGE):
            self.check_last(BEFORE, (relist(0, 1, 1, 2, number), [-12]), (relist(0, 1, 1, 2, 5, number), [-12]),
                            (relist(0, 1, 1, 2, number, 5), [-12]), (row(1, 5), [0, 0, 1, 5, 0]), (row(1, 1), [0, 0, 2, 0, 1]))

    def test_removed_ones_can_not_be_named(self):
        self.check_last(BEFORE, (remove(1, 5), [0, 1]), (relist(0, 1, 1, 0, 5, 6), [-12]), (relist(0, 1, 1, 0, 6), [0]))

    def test_no_object_is_told_ahead_of_none(self):
        self.check_last(BEFORE, (relist(0, 1, 1, 0, 77), [-12]), (relist(0, 1, 1, 0, 6, 77), [-12]), (relist(0, 1, 1, 0, 6), [1, 5]))

    def test_uniqueness_is_not_looked_at(self):
        self.check_last([load("table p { a: ref p none unique; }"), fill(3, 1, 0, 2, 0, 3, 0)], (relist(0, 1, 0, 0, 1, 2, 3), [0]),
                        (list_(0, 1, 0, 0), [0, 3, 1, 2, 3]))
