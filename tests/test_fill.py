"""Point 2: fill, the form of its rows and the rules."""

from tests.helper import HUGE, LineTest, back, fill, list_, load, new, remove, row

NUMBERS = load("table p { a: number from -5 to 5; b: number unique; }")
PLAIN = load("table p { a: number; }")
TWO = load("table p { a: number; b: ref q none; } table q { c: number; }")


class Form(LineTest):

    def check_refused(self, text, *rows):
        self.check_last([text], (fill(*rows), [-4]))

    def test_ordinary_rows(self):
        self.check_last([TWO], (fill(2, 3, 10, 0, 5, 20, 8, 1, 8, -7), [0]),
                        (row(0, 3), [0, 0, 10, 0]), (row(0, 5), [0, 0, 20, 8]), (row(1, 8), [0, 0, -7]),
                        (row(0, 8), [-5]), (row(1, 3), [-5]))

    def test_without_tables_there_is_nothing_to_tell(self):
        self.check((fill(), [0]), (fill(0), [-4]), (load(""), [0, 0, 0]), (fill(), [0]), (fill(1), [-4]))

    def test_empty_tables(self):
        self.check_last([TWO], (fill(0, 0), [0]), (row(0, 1), [-5]))

    def test_tables_without_columns(self):
        self.check_last([load("table p {} table q {}")], (fill(2, 1, 99, 1, 5), [0]), (row(0, 99), [0, 0]),
                        (row(1, 5), [0, 0]), (fill(2, 1, 1, 0), [-4]))

    def test_lists_that_end_early(self):
        rows = [2, 3, 10, 0, 5, 20, 8, 1, 8, -7]
        for many in range(len(rows)):
            self.check_refused(TWO, *rows[:many])

    def test_lists_with_something_else_behind(self):
        self.check_refused(TWO, 2, 3, 10, 0, 5, 20, 8, 1, 8, -7, 0)
        self.check_refused(TWO, 0, 0, 0)
        self.check_refused(PLAIN, 1, 7, 5, 1, 7, 5)

    def test_8_rows_at_most(self):
        eight = [number for each in range(1, 9) for number in (each, 0)]
        self.check_last([PLAIN], (fill(8, *eight), [0]), (row(0, 8), [0, 0, 0]))
        self.check_refused(PLAIN, 9, *eight, 9, 0)
        self.check_refused(PLAIN, -1)
        self.check_refused(PLAIN, HUGE)
        self.check_refused(PLAIN, -HUGE)

    def test_a_count_below_0_does_not_lead_back(self):
        # Read from its beginning again, the list would tell a row of the third table.
        self.check_refused(load("table p {} table q { a: number; b: number; } table r { c: number; }"), 1, 5, -1)

    def test_8_rows_in_each_table(self):
        self.check_last([load("table p {} table q {}")], (fill(8, *range(1, 9), 8, *range(1, 9)), [0]),
                        (fill(8, *range(1, 9), 9, *range(1, 10)), [-4]))

    def test_ids_from_1_to_99(self):
        self.check_last([PLAIN], (fill(2, 1, 0, 99, 0), [0]), (row(0, 1), [0, 0, 0]), (row(0, 99), [0, 0, 0]))
        for number in (0, -1, 100, HUGE, -HUGE):
            self.check_refused(PLAIN, 1, number, 0)
        self.check_refused(PLAIN, 2, 99, 0, 100, 0)

    def test_ids_rise(self):
        self.check_refused(PLAIN, 2, 5, 0, 5, 0)
        self.check_refused(PLAIN, 2, 5, 0, 4, 0)
        self.check_refused(PLAIN, 3, 5, 0, 7, 0, 6, 0)
        self.check_last([PLAIN], (fill(3, 5, 0, 6, 0, 7, 0), [0]))

    def test_values(self):
        self.check_last([load("table p { a: number; b: number; }")], (fill(1, 1, -1000000, 1000000), [0]),
                        (row(0, 1), [0, 0, -1000000, 1000000]))
        for number in (-1000001, 1000001, HUGE, -HUGE):
            self.check_refused(PLAIN, 1, 1, number)
            self.check_refused(TWO, 1, 1, 0, number, 0)
            self.check_refused(TWO, 0, 1, 1, number)
            self.check_refused(PLAIN, 2, 1, number, 2, 0)

    def test_the_form_is_looked_at_ahead_of_the_rules(self):
        self.check_refused(NUMBERS, 2, 1, 6, 0, 1, 0, 0)
        self.check_refused(load("table p { a: ref q; } table q {}"), 1, 1, 5, 9)


class Rules(LineTest):

    def check_rule(self, text, rows, *broken):
        self.check_last([load(text)], (fill(*rows), [1, *broken] if broken else [0]))

    def test_2_out_of_range(self):
        text = "table p { a: number; b: number from -2 to 3; }"
        self.check_rule(text, [2, 1, 9, -2, 2, 9, 3])
        self.check_rule(text, [1, 4, 9, -3], 2, 0, 4, 1)
        self.check_rule(text, [1, 4, 9, 4], 2, 0, 4, 1)

    def test_3_a_row_that_is_not_there(self):
        text = "table p { a: ref q none; } table q { b: ref p; }"
        self.check_rule(text, [1, 4, 6, 1, 6, 4])
        self.check_rule(text, [1, 4, 4, 1, 6, 4], 3, 0, 4, 0)
        self.check_rule(text, [1, 4, 0, 1, 6, 6], 3, 1, 6, 0)
        self.check_rule(text, [1, 4, 1000000, 0], 3, 0, 4, 0)

    def test_3_none(self):
        self.check_rule("table p { a: ref p none; }", [1, 4, 0])
        self.check_rule("table p { a: ref p none cascade; b: ref p none clear; }", [1, 4, 0, 0])
        self.check_rule("table p { a: ref p; }", [1, 4, 0], 3, 0, 4, 0)
        self.check_rule("table p { a: ref p cascade; }", [1, 4, 0], 3, 0, 4, 0)

    def test_3_below_0(self):
        self.check_rule("table p { a: ref p none; }", [1, 4, -1], 3, 0, 4, 0)
        self.check_rule("table p { a: ref p; }", [1, 4, -4], 3, 0, 4, 0)

    def test_3_to_itself_and_in_a_ring(self):
        self.check_rule("table p { a: ref p; }", [1, 4, 4])
        self.check_rule("table p { a: ref p; }", [3, 4, 5, 5, 6, 6, 4])

    def test_4_the_same_number(self):
        text = "table p { a: number unique; }"
        self.check_rule(text, [3, 4, 1, 5, 2, 6, 3])
        self.check_rule(text, [3, 4, 1, 5, 2, 6, 2], 4, 0, 5, 0)
        self.check_rule(text, [3, 4, 2, 5, 1, 6, 2], 4, 0, 4, 0)
        self.check_rule(text, [2, 4, 0, 5, 0], 4, 0, 4, 0)
        self.check_rule(text, [2, 4, -7, 5, -7], 4, 0, 4, 0)

    def test_4_the_same_reference(self):
        text = "table p { a: ref p none unique; }"
        self.check_rule(text, [3, 4, 0, 5, 4, 6, 4], 4, 0, 5, 0)
        self.check_rule(text, [3, 4, 5, 5, 4, 6, 6])

    def test_4_none_may_stand_often(self):
        self.check_rule("table p { a: ref p none unique; }", [3, 4, 0, 5, 0, 6, 0])

    def test_4_not_if_the_column_is_not_unique(self):
        self.check_rule("table p { a: number; b: ref p; }", [2, 4, 1, 4, 5, 1, 4])

    def test_4_in_this_table_and_this_column_alone(self):
        self.check_rule("table p { a: number unique; b: number unique; } table q { a: number unique; }",
                        [2, 4, 1, 2, 5, 2, 1, 1, 4, 1])

    def test_2_and_3_ahead_of_4_in_one_column(self):
        self.check_rule("table p { a: number from 0 to 1 unique; }", [2, 4, 2, 5, 2], 2, 0, 4, 0)
        self.check_rule("table p { a: ref p unique; }", [2, 4, 9, 5, 9], 3, 0, 4, 0)
        self.check_rule("table p { a: ref p unique; }", [2, 4, 0, 5, 0], 3, 0, 4, 0)

    def test_columns_ahead_of_rules(self):
        self.check_rule("table p { a: number unique; b: number from 0 to 1; }", [2, 4, 7, 2, 5, 7, 0], 4, 0, 4, 0)
        self.check_rule("table p { a: ref p none unique; b: ref p; }", [2, 4, 4, 9, 5, 4, 4], 4, 0, 4, 0)
        self.check_rule("table p { a: number from 0 to 1; b: ref p; }", [1, 4, 1, 0], 3, 0, 4, 1)

    def test_ids_ahead_of_columns(self):
        self.check_rule("table p { a: number from 0 to 1; b: number from 0 to 1; }", [2, 4, 0, 2, 5, 2, 0], 2, 0, 4, 1)

    def test_tables_ahead_of_ids(self):
        self.check_rule("table p { a: number from 0 to 1; } table q { a: number from 0 to 1; }",
                        [2, 1, 0, 50, 2, 1, 1, 2], 2, 0, 50, 0)
        self.check_rule("table p { a: number from 0 to 1; } table q { a: number from 0 to 1; }",
                        [1, 50, 1, 2, 1, 0, 3, 2], 2, 1, 3, 0)


class WhatIsHeld(LineTest):

    def test_what_is_refused_or_breaks_a_rule_leaves_all_as_it_was(self):
        for rows, answer in (([1, 7, 6, 0], [1, 2, 0, 7, 0]), ([1, 7, 6], [-4])):
            self.check_last([NUMBERS, fill(1, 3, 1, 2), new(0, 9, 9)],
                            (fill(*rows), answer), (row(0, 3), [0, 0, 1, 2]), (row(0, 100), [0, 1, 9, 9]),
                            (row(0, 7), [-5]), (new(0, 0, 0), [0, 101]))

    def test_fill_begins_anew(self):
        self.check_last([NUMBERS, fill(2, 3, 1, 2, 4, 1, 3), new(0, 9, 9), remove(0, 3)],
                        (fill(1, 5, 0, 0), [0]), (row(0, 3), [-5]), (back(0, 3), [-5]), (row(0, 4), [-5]),
                        (row(0, 100), [-5]), (row(0, 5), [0, 0, 0, 0]), (new(0, 1, 1), [0, 100]))

    def test_the_same_rows_again_are_as_loaded(self):
        rows = fill(1, 3, 1, 2)
        self.check_last([NUMBERS, rows, [3, 0, 3, 0, 4]], (row(0, 3), [0, 2, 4, 2]), (rows, [0]), (row(0, 3), [0, 0, 1, 2]))

    def test_lists_are_told_of_rows_filled(self):
        self.check_last([TWO, fill(3, 1, 0, 8, 2, 0, 0, 9, 0, 8, 1, 8, 0)], (list_(1, 8, 0, 1), [0, 2, 1, 9]))
