"""Point 3 and "Removed": remove."""

from tests.helper import HUGE, LineTest, back, fill, list_, load, new, remove, row, set_


class Plain(LineTest):

    before = [load("table p { a: number; } table q { a: number; }"), fill(2, 1, 10, 2, 20, 1, 1, 30), new(0, 40)]

    def test_one_that_nobody_refers_to(self):
        self.check_last(self.before, (remove(0, 1), [0, 1]), (row(0, 1), [-5]), (row(0, 2), [0, 0, 20]), (row(1, 1), [0, 0, 30]),
                        (row(0, 100), [0, 1, 40]))

    def test_a_new_one(self):
        self.check_last(self.before, (remove(0, 100), [0, 1]), (row(0, 100), [-5]), (back(0, 100), [-5]), (row(0, 1), [0, 0, 10]))

    def test_refusals(self):
        self.check((remove(0, 1), [-3]))
        for table in (-1, 2, HUGE, -HUGE):
            self.check_last(self.before, (remove(table, 77), [-3]))
        for number in (0, -1, 3, 99, 101, HUGE, -HUGE):
            self.check_last(self.before, (remove(0, number), [-5]))
        self.check_last(self.before, (remove(1, 2), [-5]), (remove(1, 100), [-5]), (row(0, 2), [0, 0, 20]))

    def test_once(self):
        self.check_last(self.before, (remove(0, 1), [0, 1]), (remove(0, 1), [-5]))

    def test_a_number_that_looks_like_it_is_no_reference(self):
        self.check_last([load("table p { a: number; }"), fill(2, 1, 2, 2, 1)], (remove(0, 1), [0, 1]), (row(0, 2), [0, 0, 1]))


class Refused(LineTest):

    def test_by_the_first_one(self):
        text = load("table p {} table q { n: number; a: ref p none; b: ref p none; } table r { c: ref p; }")
        self.check_last([text, fill(2, 1, 2, 2, 5, 0, 2, 0, 6, 0, 1, 1, 2, 3, 1, 4, 1)],
                        (remove(0, 1), [1, 1, 6, 1]), (set_(1, 6, 1, 0), [0]),
                        (remove(0, 1), [1, 1, 6, 2]), (set_(1, 6, 2, 0), [0]),
                        (remove(0, 1), [1, 2, 3, 0]), (set_(2, 3, 0, 2), [0]),
                        (remove(0, 1), [1, 2, 4, 0]), (set_(2, 4, 0, 0), [0]),
                        (remove(0, 1), [0, 1]), (remove(0, 2), [1, 1, 5, 1]))

    def test_loaded_ones_stand_ahead_of_new_ones(self):
        self.check_last([load("table p { a: ref p none; }"), fill(2, 1, 0, 9, 1), remove(0, 9), new(0, 1), back(0, 9)],
                        (remove(0, 1), [1, 0, 9, 0]), (remove(0, 9), [0, 1]), (remove(0, 1), [1, 0, 100, 0]))

    def test_all_is_as_it_was_then(self):
        text = load("table p { a: ref p none cascade; b: ref p none clear; c: ref p none; }")
        rows = fill(4, 1, 0, 0, 0, 2, 1, 0, 0, 3, 0, 1, 0, 4, 0, 0, 2)
        self.check_last([text, rows], (remove(0, 1), [1, 0, 4, 2]), (row(0, 1), [0, 0, 0, 0, 0]), (row(0, 2), [0, 0, 1, 0, 0]),
                        (row(0, 3), [0, 0, 0, 1, 0]), (row(0, 4), [0, 0, 0, 0, 2]), (set_(0, 4, 2, 0), [0]), (remove(0, 1), [0, 2]),
                        (row(0, 3), [0, 2, 0, 0, 0]))

    def test_not_by_one_that_goes_too(self):
        text = load("table p { a: ref p none cascade; b: ref p none; }")
        self.check_last([text, fill(2, 1, 0, 2, 2, 1, 1)], (remove(0, 1), [0, 2]), (row(0, 1), [-5]), (row(0, 2), [-5]))
        self.check_last([text, fill(2, 1, 0, 2, 2, 1, 1)], (remove(0, 2), [1, 0, 1, 1]))

    def test_not_by_itself(self):
        self.check_last([load("table p { a: ref p; }"), fill(2, 1, 1, 2, 2)], (remove(0, 1), [0, 1]), (row(0, 2), [0, 0, 2]))

    def test_in_a_ring(self):
        self.check_last([load("table p { a: ref p; }"), fill(2, 1, 2, 2, 1)], (remove(0, 1), [1, 0, 2, 0]), (remove(0, 2), [1, 0, 1, 0]),
                        (row(0, 1), [0, 0, 2]), (row(0, 2), [0, 0, 1]))

    def test_where_none_is_allowed_too(self):
        self.check_last([load("table p {} table q { a: ref p none; }"), fill(1, 1, 1, 2, 1)], (remove(0, 1), [1, 1, 2, 0]))

    def test_not_by_references_to_another_table_s_number(self):
        self.check_last([load("table p {} table q {} table r { a: ref q; }"), fill(1, 1, 1, 1, 1, 1, 1)],
                        (remove(0, 1), [0, 1]), (remove(1, 1), [1, 2, 1, 0]), (remove(2, 1), [0, 1]), (remove(1, 1), [0, 1]))


class Cascades(LineTest):

    def test_through_several_tables(self):
        text = load("table s { d: ref r cascade; } table p {} table q { a: ref p cascade; } table r { x: number; b: ref q cascade; }")
        rows = fill(2, 1, 1, 2, 3, 2, 1, 2, 2, 1, 1, 2, 2, 3, 1, 7, 1, 2, 7, 1, 3, 7, 2)
        self.check_last([text, rows], (remove(1, 1), [0, 5]), (row(0, 1), [-5]), (row(0, 2), [0, 0, 3]), (row(1, 1), [-5]),
                        (row(1, 2), [0, 0]), (row(2, 1), [-5]), (row(2, 2), [0, 0, 2]), (row(3, 1), [-5]), (row(3, 2), [-5]),
                        (row(3, 3), [0, 0, 7, 2]))

    def test_along_a_chain_either_way(self):
        text = load("table p { a: ref p none cascade; }")
        self.check_last([text, fill(4, 1, 2, 2, 3, 3, 4, 4, 0)], (remove(0, 4), [0, 4]), (row(0, 1), [-5]))
        self.check_last([text, fill(4, 1, 0, 2, 1, 3, 2, 4, 3)], (remove(0, 1), [0, 4]), (row(0, 4), [-5]))
        self.check_last([text, fill(4, 1, 0, 2, 1, 3, 2, 4, 3)], (remove(0, 3), [0, 2]), (row(0, 2), [0, 0, 1]), (row(0, 3), [-5]))

    def test_to_itself_and_in_a_ring(self):
        text = load("table p { a: ref p cascade; }")
        self.check_last([text, fill(2, 1, 1, 2, 2)], (remove(0, 1), [0, 1]), (row(0, 2), [0, 0, 2]))
        self.check_last([text, fill(4, 1, 2, 2, 3, 3, 1, 4, 4)], (remove(0, 2), [0, 3]), (row(0, 4), [0, 0, 4]), (row(0, 1), [-5]))

    def test_one_that_refers_twice_goes_once(self):
        text = load("table p {} table q { a: ref p cascade; b: ref p none cascade; }")
        self.check_last([text, fill(2, 1, 2, 2, 1, 1, 1, 2, 2, 1)], (remove(0, 1), [0, 3]), (row(0, 2), [0, 0]))

    def test_new_ones_too(self):
        text = load("table p {} table q { a: ref p cascade; }")
        self.check_last([text, fill(1, 1, 1, 1, 1), new(1, 1), new(0), new(1, 101)], (remove(0, 1), [0, 3]), (row(1, 102), [0, 1, 101]),
                        (remove(0, 101), [0, 2]))

    def test_of_32_objects(self):
        text = load(" ".join("table " + name + " { a: ref p cascade; }" for name in "pqrs"))
        rows = [number for table in range(4) for number in [8] + [each for row_id in range(1, 9) for each in (row_id, 1)]]
        self.check_last([text, fill(*rows)], (remove(3, 8), [0, 1]), (remove(0, 1), [0, 31]))

    def test_not_by_references_to_another_table_s_number(self):
        text = load("table p {} table q {} table r { a: ref q cascade; }")
        self.check_last([text, fill(1, 1, 1, 1, 1, 1, 1)], (remove(0, 1), [0, 1]), (row(2, 1), [0, 0, 1]), (remove(1, 1), [0, 2]))

    def test_refused_by_one_that_refers_to_one_taken_along(self):
        text = load("table p {} table q { a: ref p cascade; } table r { b: ref q; }")
        self.check_last([text, fill(1, 1, 1, 2, 1, 1, 3, 2)], (remove(0, 1), [1, 2, 3, 0]), (row(0, 1), [0, 0]), (row(1, 2), [0, 0, 1]))


class Clears(LineTest):

    text = load("table p { n: number; a: ref p none clear; b: ref p none clear; }")

    def test_references_of_those_that_stay(self):
        self.check_last([self.text, fill(3, 1, 7, 0, 0, 2, 8, 1, 1, 3, 9, 2, 1)], (remove(0, 1), [0, 1]), (row(0, 2), [0, 2, 8, 0, 0]),
                        (row(0, 3), [0, 2, 9, 2, 0]), (list_(0, 2, 0, 1), [0, 1, 3]))

    def test_to_itself_and_in_a_ring(self):
        self.check_last([self.text, fill(3, 1, 0, 1, 2, 2, 0, 3, 0, 3, 0, 1, 3)], (remove(0, 1), [0, 1]), (row(0, 2), [0, 0, 0, 3, 0]),
                        (row(0, 3), [0, 2, 0, 0, 3]))

    def test_to_those_that_cascades_take_along(self):
        text = load("table p {} table q { a: ref p cascade; } table r { b: ref q none clear unique; c: ref p none clear; }")
        self.check_last([text, fill(1, 1, 2, 2, 1, 3, 1, 2, 4, 2, 1, 5, 3, 0)], (remove(0, 1), [0, 3]), (row(2, 4), [0, 2, 0, 0]),
                        (row(2, 5), [0, 2, 0, 0]))

    def test_numbers_are_not_cleared(self):
        self.check_last([self.text, fill(2, 1, 0, 0, 0, 2, 1, 1, 0)], (remove(0, 1), [0, 1]), (row(0, 2), [0, 2, 1, 0, 0]))

    def test_references_to_another_table_s_number_stay(self):
        text = load("table p {} table q {} table r { a: ref p none clear; b: ref q none clear; }")
        self.check_last([text, fill(1, 1, 1, 1, 1, 3, 1, 1)], (remove(0, 1), [0, 1]), (row(2, 3), [0, 2, 0, 1]))

    def test_new_ones_too(self):
        self.check_last([self.text, fill(1, 1, 0, 0, 0), new(0, 5, 1, 0), new(0, 6, 100, 100)], (remove(0, 1), [0, 1]),
                        (row(0, 100), [0, 1, 5, 0, 0]), (remove(0, 100), [0, 1]), (row(0, 101), [0, 1, 6, 0, 0]))
