""""A flush" and "Rules" under "Words": flush."""

from tests.helper import (CHANGED, FLUSH, REDO, ROLLBACK, TABLES, UNDO, LineTest, back, fill, find, list_, load, new, refresh, relist,
                          remove, row, set_)

TEXT = load("table p { n: number; a: ref p none clear; } table q { b: ref p none clear; c: ref q none clear; } table r {}")
ROWS = fill(2, 2, 7, 0, 4, 100, 2, 1, 1, 2, 1, 1, 3)
BEFORE = [TEXT, ROWS]


class Answers(LineTest):

    def test_without_tables(self):
        self.check((FLUSH, [0, 0, 0]), (TABLES, [0]), (load(""), [0, 0, 0]), (FLUSH, [0, 0, 0]))

    def test_nothing_changed(self):
        self.check_last([TEXT], (FLUSH, [0, 0, 0]), (TABLES, [0, 0, 0, 0]))
        self.check_last(BEFORE, (FLUSH, [0, 0, 0]), (TABLES, [0, *ROWS[2:]]), (set_(0, 2, 0, 7), [0]), (FLUSH, [0, 0, 0]))

    def test_each_kind_of_change(self):
        self.check_last(BEFORE, (set_(0, 2, 0, 8), [0]), (set_(0, 2, 1, 4), [0]), (FLUSH, [0, 1, 0]), (row(0, 2), [0, 0, 8, 4]))
        self.check_last(BEFORE, (remove(2, 3), [0, 1]), (FLUSH, [0, 1, 0]), (TABLES, [0, 2, 2, 7, 0, 4, 100, 2, 1, 1, 2, 1, 0]))
        self.check_last(BEFORE, (new(2), [0, 100]), (FLUSH, [0, 1, 1, 2, 100, 1]), (TABLES, [0, 2, 2, 7, 0, 4, 100, 2, 1, 1, 2, 1, 2, 1, 3]))

    def test_as_many_changes_as_changed_tells(self):
        self.check_last(BEFORE, (remove(0, 2), [0, 1]), (new(1, 4, 1), [0, 100]),
                        (CHANGED, [0, 4, 1, 0, 4, 1, 1, 2, 0, 2, 1, 1, 1, 1, 0, 0, 1, 100]), (FLUSH, [0, 4, 1, 1, 100, 2]), (FLUSH, [0, 0, 0]))


class Keys(LineTest):

    def test_several_of_one_table(self):
        self.check_last(BEFORE, (new(0, 1, 0), [0, 100]), (new(0, 2, 0), [0, 101]), (new(0, 3, 0), [0, 102]), (new(0, 4, 0), [0, 103]),
                        (FLUSH, [0, 4, 4, 0, 100, 1, 0, 101, 3, 0, 102, 5, 0, 103, 6]),
                        (TABLES, [0, 6, 1, 1, 0, 2, 7, 0, 3, 2, 0, 4, 100, 2, 5, 3, 0, 6, 4, 0, 1, 1, 2, 1, 1, 3]))

    def test_of_several_tables_in_the_order_in_which_they_were_made(self):
        self.check_last(BEFORE, (new(2), [0, 100]), (new(0, 1, 0), [0, 101]), (new(1, 0, 0), [0, 102]), (new(2), [0, 103]), (new(0, 2, 0), [0, 104]),
                        (new(2), [0, 105]), (FLUSH, [0, 6, 6, 2, 100, 1, 0, 101, 1, 1, 102, 2, 2, 103, 2, 0, 104, 3, 2, 105, 4]),
                        (TABLES, [0, 4, 1, 1, 0, 2, 7, 0, 3, 2, 0, 4, 100, 2, 2, 1, 2, 1, 2, 0, 0, 4, 1, 2, 3, 4]))

    def test_an_id_of_a_loaded_row_that_is_gone(self):
        self.check_last(BEFORE, (new(1, 0, 0), [0, 100]), (remove(1, 1), [0, 1]), (FLUSH, [0, 2, 1, 1, 100, 2]), (row(1, 1), [-5]),
                        (row(1, 2), [0, 0, 0, 0]))
        # Behind the flush that row was loaded no more.
        self.check_last(BEFORE + [new(1, 0, 0), remove(1, 1), FLUSH], (back(1, 1), [-5]), (new(1, 0, 0), [0, 100]),
                        (FLUSH, [0, 1, 1, 1, 100, 1]))

    def test_ids_that_are_there_behind_a_flush(self):
        self.check_last(BEFORE + [new(2), FLUSH], (new(2), [0, 100]), (FLUSH, [0, 1, 1, 2, 100, 2]), (TABLES, [0, *ROWS[2:-2], 3, 1, 2, 3]))

    def test_ids_of_other_tables_do_not_count(self):
        self.check_last([load("table p {} table q {}"), fill(2, 1, 2, 1, 9)], (new(1), [0, 100]), (new(0), [0, 101]),
                        (FLUSH, [0, 2, 2, 1, 100, 1, 0, 101, 3]))

    def test_new_ones_that_are_not_there(self):
        self.check_last(BEFORE, (new(2), [0, 100]), (new(2), [0, 101]), (new(2), [0, 102]), (remove(2, 101), [0, 1]), (UNDO, [0]), (REDO, [0]),
                        (remove(2, 100), [0, 1]), (new(2), [0, 103]), (new(2), [0, 104]), (UNDO, [0]), (FLUSH, [0, 2, 2, 2, 102, 1, 2, 103, 2]))

    def test_one_made_behind_an_undone_one(self):
        self.check_last(BEFORE, (new(2), [0, 100]), (new(2), [0, 101]), (UNDO, [0]), (new(0, 5, 0), [0, 101]),
                        (FLUSH, [0, 2, 2, 2, 100, 1, 0, 101, 1]), (row(0, 1), [0, 0, 5, 0]), (row(2, 2), [-5]))

    def test_8_loaded_that_are_gone_and_8_new(self):
        text = load("table p {}")
        told = [number for each in range(8) for number in (0, 100 + each, 9 + each)]
        self.check_last([text, fill(8, *range(1, 9))] + [remove(0, each) for each in range(1, 9)] + [new(0)] * 8,
                        (FLUSH, [0, 16, 8, *told]), (TABLES, [0, 8, *range(9, 17)]))

    def test_8_new_among_ids_up_to_99(self):
        self.check_last([load("table p {}"), fill(4, 1, 3, 98, 99)] + [new(0)] * 4, (FLUSH, [0, 4, 4, 0, 100, 2, 0, 101, 4, 0, 102, 5, 0, 103, 6]),
                        (TABLES, [0, 8, 1, 2, 3, 4, 5, 6, 98, 99]))


class References(LineTest):

    def test_from_loaded_ones(self):
        self.check_last(BEFORE, (new(0, 5, 0), [0, 100]), (set_(1, 1, 0, 100), [0]), (set_(0, 4, 1, 100), [0]), (FLUSH, [0, 3, 1, 0, 100, 1]),
                        (TABLES, [0, 3, 1, 5, 0, 2, 7, 0, 4, 100, 1, 1, 1, 1, 1, 1, 3]), (list_(0, 1, 1, 0), [0, 1, 1]), (list_(0, 1, 0, 1), [0, 1, 4]))

    def test_from_new_ones_to_earlier_and_later_ones(self):
        self.check_last(BEFORE, (new(0, 5, 0), [0, 100]), (new(0, 6, 100), [0, 101]), (set_(0, 100, 1, 101), [0]), (new(1, 101, 0), [0, 102]),
                        (FLUSH, [0, 3, 3, 0, 100, 1, 0, 101, 3, 1, 102, 2]), (row(0, 1), [0, 0, 5, 3]), (row(0, 3), [0, 0, 6, 1]),
                        (row(1, 2), [0, 0, 3, 0]))

    def test_to_itself(self):
        self.check_last(BEFORE, (new(0, 5, 0), [0, 100]), (set_(0, 100, 1, 100), [0]), (FLUSH, [0, 1, 1, 0, 100, 1]), (row(0, 1), [0, 0, 5, 1]),
                        (list_(0, 1, 0, 1), [0, 1, 1]))

    def test_to_loaded_ones_stay(self):
        self.check_last(BEFORE, (new(0, 5, 2), [0, 100]), (FLUSH, [0, 1, 1, 0, 100, 1]), (row(0, 1), [0, 0, 5, 2]), (row(0, 4), [0, 0, 100, 2]))

    def test_to_objects_of_two_tables_with_other_keys(self):
        text = load("table p { a: ref q none; b: ref r none; } table q {} table r {}")
        self.check_last([text, fill(0, 1, 1, 3, 1, 2, 3)], (new(2), [0, 100]), (new(1), [0, 101]), (new(0, 101, 100), [0, 102]), (new(0, 1, 1), [0, 103]),
                        (FLUSH, [0, 4, 4, 2, 100, 4, 1, 101, 2, 0, 102, 1, 0, 103, 2]), (TABLES, [0, 2, 1, 2, 4, 2, 1, 1, 2, 1, 2, 4, 1, 2, 3, 4]))

    def test_numbers_that_look_like_those_of_new_objects_stay(self):
        self.check_last(BEFORE, (new(0, 101, 0), [0, 100]), (new(0, 100, 100), [0, 101]), (set_(0, 2, 0, 101), [0]),
                        (FLUSH, [0, 3, 2, 0, 100, 1, 0, 101, 3]), (TABLES, [0, 4, 1, 101, 0, 2, 101, 0, 3, 100, 1, 4, 100, 2, 1, 1, 2, 1, 1, 3]),
                        (find(0, 0, 100), [0, 2, 3, 4]))

    def test_made_by_another_list(self):
        self.check_last(BEFORE, (new(0, 5, 0), [0, 100]), (relist(0, 100, 0, 1, 100, 4), [0]), (FLUSH, [0, 2, 1, 0, 100, 1]), (row(0, 1), [0, 0, 5, 1]),
                        (row(0, 4), [0, 0, 100, 1]))


class Rules(LineTest):

    def check_broken(self, text, rows, deeds, *broken):
        self.check_last([load(text), fill(*rows)] + deeds, (FLUSH, [1, *broken]), (FLUSH, [1, *broken]))

    def test_2_out_of_range(self):
        text = "table p { m: number; n: number from -2 to 3; }"
        for value in (-3, 4, 100, 1000000, -1000000):
            self.check_broken(text, [2, 5, 0, 0, 6, 0, 0], [set_(0, 6, 1, value)], 2, 0, 6, 1)
            self.check_broken(text, [2, 1, 0, 0, 6, 0, 0], [new(0, 0, value)], 2, 0, 2, 1)
        for value in (-2, 3):
            self.check_last([load(text), fill(1, 5, 0, 0), set_(0, 5, 1, value), new(0, 0, value)], (FLUSH, [0, 2, 1, 0, 100, 1]))

    def test_3_none_where_it_is_not_allowed(self):
        text = "table p { n: number; a: ref p; }"
        self.check_broken(text, [2, 5, 0, 5, 6, 0, 5], [set_(0, 6, 1, 0)], 3, 0, 6, 1)
        self.check_broken(text, [2, 1, 0, 1, 6, 0, 1], [new(0, 0, 0)], 3, 0, 2, 1)

    def test_3_none_where_it_is_allowed(self):
        self.check_last([load("table p { a: ref p none; }"), fill(1, 5, 5), set_(0, 5, 0, 0), new(0, 0)], (FLUSH, [0, 2, 1, 0, 100, 1]),
                        (TABLES, [0, 2, 1, 0, 5, 0]))

    def test_3_by_one_brought_back(self):
        text = "table p {} table q { a: ref p cascade; }"
        self.check_broken(text, [2, 1, 2, 1, 4, 1], [remove(0, 1), back(1, 4)], 3, 1, 4, 0)

    def test_4_the_same_number(self):
        text = "table p { m: number; n: number unique; }"
        self.check_broken(text, [3, 4, 0, 1, 5, 0, 2, 6, 0, 3], [set_(0, 6, 1, 2)], 4, 0, 5, 1)
        self.check_broken(text, [1, 1, 0, 1], [new(0, 0, 1)], 4, 0, 1, 1)
        self.check_broken(text, [1, 3, 0, 1], [new(0, 0, 1)], 4, 0, 1, 1)
        self.check_broken(text, [1, 1, 0, 1], [new(0, 0, 0), new(0, 0, 0)], 4, 0, 2, 1)

    def test_4_the_same_reference(self):
        text = "table p { a: ref p none unique; }"
        self.check_broken(text, [2, 4, 4, 5, 5], [set_(0, 5, 0, 4)], 4, 0, 4, 0)
        self.check_broken(text, [2, 4, 0, 5, 0], [new(0, 0), relist(0, 100, 0, 0, 4, 5)], 4, 0, 4, 0)
        self.check_last([load(text), fill(2, 4, 0, 5, 4), new(0, 0), new(0, 0)], (FLUSH, [0, 2, 2, 0, 100, 1, 0, 101, 2]))

    def test_4_a_reference_to_a_key_and_one_to_a_loaded_row(self):
        # 1 in q is a key, 1 in p isn't looked at.
        text = "table p { a: ref q none unique; b: ref p none unique; } table q {}"
        self.check_last([load(text), fill(1, 1, 0, 1, 1, 2), new(1), new(0, 100, 0)], (FLUSH, [0, 2, 2, 1, 100, 1, 0, 101, 2]),
                        (TABLES, [0, 2, 1, 0, 1, 2, 1, 0, 2, 1, 2]))

    def test_4_numbers_that_look_like_new_ones(self):
        self.check_last([load("table p { n: number unique; }"), fill(1, 9, 1), new(0, 100), new(0, 2)], (FLUSH, [0, 2, 2, 0, 100, 1, 0, 101, 2]),
                        (TABLES, [0, 3, 1, 100, 2, 2, 9, 1]))

    def test_4_not_with_one_that_is_gone(self):
        self.check_last([load("table p { n: number unique; }"), fill(1, 1, 5), remove(0, 1), new(0, 5)], (FLUSH, [0, 2, 1, 0, 100, 2]),
                        (TABLES, [0, 1, 2, 5]))

    def test_2_and_3_ahead_of_4_in_one_column(self):
        self.check_broken("table p { n: number from 0 to 1 unique; }", [2, 4, 0, 5, 1], [set_(0, 4, 0, 7), set_(0, 5, 0, 7)], 2, 0, 4, 0)
        self.check_broken("table p { a: ref p unique; }", [2, 4, 4, 5, 5], [set_(0, 4, 0, 0), set_(0, 5, 0, 0)], 3, 0, 4, 0)

    def test_its_first_column(self):
        text = "table p { l: number unique; m: number from 0 to 9; a: ref p; }"
        rows = [2, 4, 0, 0, 4, 5, 1, 0, 4]
        self.check_broken(text, rows, [set_(0, 4, 2, 0), set_(0, 4, 1, 10), set_(0, 4, 0, 1)], 4, 0, 4, 0)
        self.check_broken(text, rows, [set_(0, 5, 2, 0), set_(0, 5, 1, 10)], 2, 0, 5, 1)
        self.check_broken(text, rows, [set_(0, 5, 2, 0)], 3, 0, 5, 2)

    def test_the_first_row_by_ids_and_keys(self):
        text = "table p { n: number from 0 to 9; }"
        # The keys of the new ones are 1, 3 and 5.
        self.check_broken(text, [2, 2, 0, 4, 0], [set_(0, 2, 0, 10), new(0, 10)], 2, 0, 1, 0)
        self.check_broken(text, [2, 2, 0, 4, 0], [new(0, 0), new(0, 10), set_(0, 2, 0, 10)], 2, 0, 2, 0)
        self.check_broken(text, [2, 2, 0, 4, 0], [new(0, 0), new(0, 10), set_(0, 4, 0, 10)], 2, 0, 3, 0)
        self.check_broken(text, [2, 2, 0, 4, 0], [new(0, 0), new(0, 0), new(0, 10), set_(0, 4, 0, 10)], 2, 0, 4, 0)
        self.check_broken(text, [2, 2, 0, 4, 0], [new(0, 0), new(0, 0), new(0, 10)], 2, 0, 5, 0)

    def test_the_first_table(self):
        text = "table p { n: number from 0 to 9; } table q { n: number from 0 to 9; }"
        self.check_broken(text, [1, 50, 0, 1, 1, 0], [set_(1, 1, 0, 10), set_(0, 50, 0, 10)], 2, 0, 50, 0)
        self.check_broken(text, [1, 50, 0, 1, 1, 0], [new(1, 10), new(0, 10)], 2, 0, 1, 0)
        self.check_broken(text, [1, 50, 0, 1, 1, 0], [new(1, 10), new(0, 9)], 2, 1, 2, 0)


class WhatIsHeld(LineTest):

    def test_behind_one_that_answers_0(self):
        self.check_last(BEFORE, (set_(0, 2, 0, 9), [0]), (remove(1, 1), [0, 1]), (new(1, 2, 0), [0, 100]), (FLUSH, [0, 3, 1, 1, 100, 2]),
                        (TABLES, [0, 2, 2, 9, 0, 4, 100, 2, 1, 2, 2, 0, 1, 3]), (CHANGED, [0, 0]), (row(0, 2), [0, 0, 9, 0]), (row(1, 2), [0, 0, 2, 0]),
                        (row(1, 100), [-5]), (back(1, 1), [-5]), (refresh(0, 2), [2]), (UNDO, [-9]), (REDO, [-9]),
                        (remove(1, 2), [0, 1]), (set_(0, 2, 0, 7), [0]), (CHANGED, [0, 2, 1, 0, 2, 1, 0, 2, 1, 2]), (back(1, 2), [0, 2, 0]),
                        (refresh(0, 2), [0, 9, 0]), (CHANGED, [0, 0]))

    def test_behind_one_that_answers_1(self):
        text = load("table p { n: number from 0 to 9; a: ref p none clear; } table q {}")
        before = [text, fill(2, 1, 5, 0, 2, 6, 1, 1, 4), set_(0, 1, 0, 10), remove(1, 4), new(1), set_(0, 2, 0, 3), UNDO]
        now = [0, 2, 1, 10, 0, 2, 6, 1, 1, 100]
        changes = [0, 3, 1, 0, 1, 1, 0, 0, 1, 100, 2, 1, 4]
        self.check_last(before, (TABLES, now), (CHANGED, changes), (FLUSH, [1, 2, 0, 1, 0]), (TABLES, now), (CHANGED, changes),
                        (row(0, 1), [0, 2, 10, 0]), (row(1, 100), [0, 1]), (row(1, 1), [-5]), (REDO, [0]), (row(0, 2), [0, 2, 3, 1]), (REDO, [-9]),
                        (UNDO, [0]), (UNDO, [0]), (row(1, 100), [-5]), (UNDO, [0]), (row(1, 4), [0, 0]), (UNDO, [0]), (CHANGED, [0, 0]), (UNDO, [-9]))

    def test_what_is_loaded_behind_one_that_answers_1(self):
        text = load("table p { n: number from 0 to 9; }")
        self.check_last([text, fill(2, 1, 5, 2, 6), set_(0, 1, 0, 10), remove(0, 2)], (FLUSH, [1, 2, 0, 1, 0]), (refresh(0, 1), [0, 5]), (back(0, 2), [0, 6]))
        self.check_last([text, fill(2, 1, 5, 2, 6), set_(0, 1, 0, 10), remove(0, 2)], (FLUSH, [1, 2, 0, 1, 0]), (ROLLBACK, [0, 2]),
                        (TABLES, [0, 2, 1, 5, 2, 6]))

    def test_once_the_rule_is_kept(self):
        text = load("table p { n: number from 0 to 9; a: ref p; }")
        self.check_last([text, fill(1, 2, 5, 2)], (new(0, 1, 0), [0, 100]), (FLUSH, [1, 3, 0, 1, 1]), (set_(0, 100, 1, 100), [0]),
                        (FLUSH, [0, 1, 1, 0, 100, 1]), (TABLES, [0, 2, 1, 1, 1, 2, 5, 2]))

    def test_the_schema_stays(self):
        self.check_last(BEFORE + [new(2), FLUSH], (new(0, 1), [-7]), (new(0, 1, 2), [0, 100]), (set_(0, 100, 1, 1), [1]), (new(3), [-3]),
                        (remove(0, 2), [0, 1]), (row(0, 100), [0, 1, 1, 0]))
