""""The calls": tables."""

from tests.helper import FLUSH, REDO, ROLLBACK, TABLES, UNDO, LineTest, back, fill, load, new, remove, set_

TEXT = load("table p { n: number; a: ref p none clear; } table q {} table r { c: number; }")
ROWS = fill(2, 4, -7, 9, 9, 8, 0, 2, 1, 99, 0)


class Tables(LineTest):

    def test_without_tables(self):
        self.check((TABLES, [0]), (load(""), [0, 0, 0]), (TABLES, [0]))

    def test_tables_without_rows(self):
        self.check_last([TEXT], (TABLES, [0, 0, 0, 0]))

    def test_ordinary(self):
        self.check_last([TEXT, ROWS], (TABLES, [0, 2, 4, -7, 9, 9, 8, 0, 2, 1, 99, 0]))

    def test_all_rows_that_there_may_be(self):
        text = load(" ".join("table " + name + " { a: number; b: number; c: number; d: number; }" for name in "pqrs"))
        rows = [number for table in range(4) for number in
                [8] + [each for row_id in range(92, 100) for each in (row_id, table, -1000000, 1000000, row_id)]]
        self.check_last([text, fill(*rows)], (TABLES, [0, *rows]))

    def test_as_they_are_now(self):
        self.check_last([TEXT, ROWS], (set_(0, 4, 0, 3), [0]), (remove(0, 9), [0, 1]), (new(2, 5), [0, 100]),
                        (TABLES, [0, 1, 4, 3, 0, 2, 1, 99, 1, 100, 5]), (UNDO, [0]), (TABLES, [0, 1, 4, 3, 0, 2, 1, 99, 0]),
                        (REDO, [0]), (TABLES, [0, 1, 4, 3, 0, 2, 1, 99, 1, 100, 5]), (FLUSH, [0, 3, 1, 2, 100, 1]),
                        (TABLES, [0, 1, 4, 3, 0, 2, 1, 99, 1, 1, 5]), (set_(0, 4, 0, 4), [0]), (ROLLBACK, [0, 1]),
                        (TABLES, [0, 1, 4, 3, 0, 2, 1, 99, 1, 1, 5]))

    def test_by_rising_numbers_whenever_they_came(self):
        self.check_last([TEXT, ROWS], (remove(1, 1), [0, 1]), (new(1), [0, 100]), (new(1), [0, 101]), (back(1, 1), [0]),
                        (TABLES, [0, 2, 4, -7, 9, 9, 8, 0, 4, 1, 99, 100, 101, 0]),
                        (FLUSH, [0, 2, 2, 1, 100, 2, 1, 101, 3]), (TABLES, [0, 2, 4, -7, 9, 9, 8, 0, 4, 1, 2, 3, 99, 0]))

    def test_what_is_told_may_be_filled(self):
        self.check_last([TEXT, ROWS], (fill(2, 4, -7, 9, 9, 8, 0, 2, 1, 99, 0), [0]), (TABLES, [0, 2, 4, -7, 9, 9, 8, 0, 2, 1, 99, 0]))

    def test_it_changes_nothing(self):
        self.check_last([TEXT, ROWS, new(1), UNDO], (TABLES, [0, *ROWS[2:]]), (TABLES, [0, *ROWS[2:]]), (REDO, [0]),
                        (TABLES, [0, 2, 4, -7, 9, 9, 8, 0, 3, 1, 99, 100, 0]), (UNDO, [0]))

    def test_behind_a_load_that_fails(self):
        self.check_last([TEXT, ROWS], (load("?"), [1, 1, 0]), (load([256]), [-1]), (fill(1), [-4]), (TABLES, [0, *ROWS[2:]]))
