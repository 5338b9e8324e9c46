"""Tables' rows: a list with a dict for each table, from a row's number to the tuple of its values.

Rows are never changed in place: a change makes other tables, so that earlier ones may be kept.
"""

from objectsessions.schemas import LEAST_VALUE, MOST_VALUE

MOST_ROWS = 8
LEAST_ID = 1
MOST_ID = 99

OUT_OF_RANGE = 2
BAD_REFERENCE = 3
NOT_UNIQUE = 4


def is_value(number):
    return LEAST_VALUE <= number <= MOST_VALUE


def rows_are_well_made(rows):
    """If ids rise within their bounds, and all values are values."""
    last = LEAST_ID - 1
    for row in rows:
        if not last < row[0] <= MOST_ID:
            return False
        if not all([is_value(number) for number in row[1:]]):
            return False
        last = row[0]
    return True


def cut_rows(numbers, width):
    return [numbers[start:start + width] for start in range(0, len(numbers), width)]


def read_rows(schema, numbers):
    """The tables that the numbers tell, or None if they aren't of the form."""
    tables = []
    place = 0
    for columns in schema:
        if place == len(numbers) or not 0 <= numbers[place] <= MOST_ROWS:
            return None
        width = 1 + len(columns)
        behind = place + 1 + numbers[place] * width
        if behind > len(numbers):
            return None
        rows = cut_rows(numbers[place + 1:behind], width)
        if not rows_are_well_made(rows):
            return None
        tables.append(dict([(row[0], tuple(row[1:])) for row in rows]))
        place = behind
    return tables if place == len(numbers) else None


def reference_is_good(column, tables, value):
    if value == 0:
        return column.optional
    return value in tables[column.target]


def is_repeated(rows, number, index):
    value = rows[number][index]
    return any([other != number and rows[other][index] == value for other in rows])


def broken_rule(column, tables, table, number, index):
    """The first rule that a row's value in this column breaks, or 0."""
    value = tables[table][number][index]
    if column.target is None:
        if not column.low <= value <= column.high:
            return OUT_OF_RANGE
    elif not reference_is_good(column, tables, value):
        return BAD_REFERENCE
    counts = column.target is None or value != 0
    if column.unique and counts and is_repeated(tables[table], number, index):
        return NOT_UNIQUE
    return 0


def first_broken(schema, tables):
    """The rule, table, number and column of the first row that breaks a rule, or an empty list."""
    for table, columns in enumerate(schema):
        for number in sorted(tables[table]):
            for index, column in enumerate(columns):
                rule = broken_rule(column, tables, table, number, index)
                if rule != 0:
                    return [rule, table, number, index]
    return []


def having(tables, table, index, value):
    """The numbers of the table's rows that have this value in this column, rising."""
    rows = tables[table]
    return [number for number in sorted(rows) if rows[number][index] == value]


def copy_tables(tables):
    return [dict(rows) for rows in tables]


def with_row(tables, table, number, values):
    """Tables with this row, added or in the place of the one with its number."""
    others = copy_tables(tables)
    others[table][number] = tuple(values)
    return others


def with_value(row, index, value):
    """A row's values with another one in this column."""
    return row[:index] + (value,) + row[index + 1:]
