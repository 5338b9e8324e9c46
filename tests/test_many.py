"""Changes, undo, redo, flush and rollback on lines made up by a fixed rule.

What each call did is taken from what tables answers behind it; a plain account of the session is kept here beside it.
"""

import random
import unittest

from tests.helper import CHANGED, FLUSH, REDO, ROLLBACK, TABLES, UNDO, back, fill, find, load, new, refresh, relist, remove, replies, set_

TEXT = ("table p { n: number from 0 to 3 unique; a: ref p none clear; b: ref q cascade; }"
        " table q { c: ref r none cascade; d: ref r none clear unique; }"
        " table r { n: number; e: ref p none clear; f: ref q none; m: number from -1 to 104; }")
# Of each column: the table to which it refers, or None and its range; if none is allowed; if it's unique.
COLUMNS = [
    [(None, 0, 3, True), (0, True, None, False), (1, False, None, False)],
    [(2, True, None, False), (2, True, None, True)],
    [(None, -1000000, 1000000, False), (0, True, None, False), (1, True, None, False), (None, -1, 104, False)],
]
ROWS = fill(3, 1, 0, 2, 1, 2, 1, 2, 2, 3, 2, 0, 2, 2, 1, 1, 0, 2, 2, 1, 2, 1, 5, 3, 1, 100, 2, 6, 0, 0, 101)
NUMBERS = (0, 0, 1, 1, 2, 2, 3, 3, 100, 101, 102, 103, 104)


def one_call(dice):
    table = dice.randrange(3)
    number = dice.choice(NUMBERS)
    values = [dice.choice(NUMBERS[:8]) for column in COLUMNS[table]]
    return dice.choice([
        lambda: new(table, *values),
        lambda: new(table, *values),
        lambda: set_(table, number, dice.randrange(len(values)), dice.choice(NUMBERS)),
        lambda: set_(table, number, dice.randrange(len(values)), dice.choice(NUMBERS)),
        lambda: set_(table, number, 0, dice.choice(NUMBERS)),
        lambda: remove(table, number),
        lambda: back(table, number),
        lambda: back(table, number),
        lambda: relist(table, number, *dice.choice([(0, 1), (0, 2), (1, 0), (1, 1), (2, 1), (2, 2)]), *values[:dice.randrange(3)]),
        lambda: refresh(table, number),
        lambda: UNDO, lambda: UNDO, lambda: UNDO, lambda: REDO, lambda: REDO, lambda: FLUSH,
        lambda: ROLLBACK if dice.randrange(4) == 0 else FLUSH,
    ])()


def read_tables(told):
    """What tables answers, as a dict of rows for each table."""
    rest = list(told)
    assert rest.pop(0) == 0
    tables = []
    for columns in COLUMNS:
        rows = {}
        for each in range(rest.pop(0)):
            number = rest.pop(0)
            rows[number] = [rest.pop(0) for column in columns]
        tables.append(rows)
    assert not rest
    return tables


def told_changes(loaded, now):
    told = []
    for table in range(3):
        for number, values in now[table].items():
            before = loaded[table].get(number)
            if before is None:
                told.append([0, table, number])
            elif before != values:
                columns = [column for column in range(len(values)) if before[column] != values[column]]
                told.append([1, table, number, len(columns), *columns])
        told += [[2, table, number] for number in loaded[table] if number not in now[table]]
    return told


def made_keys(loaded, now):
    """Table, number and key of each new one; the numbers rise as they are made."""
    keys = []
    for number in range(100, 160):
        for table in range(3):
            if number in now[table]:
                taken = set(loaded[table]) | set(now[table]) | {key for other, each, key in keys if other == table}
                keys.append((table, number, min(set(range(1, 100)) - taken)))
    return keys


def keyed(now, keys):
    key_of = {(table, number): key for table, number, key in keys}
    tables = []
    for table, rows in enumerate(now):
        others = {}
        for number, values in rows.items():
            others[key_of.get((table, number), number)] = [
                key_of.get((column[0], value), value) if column[0] is not None else value
                for column, value in zip(COLUMNS[table], values)]
        tables.append(dict(sorted(others.items())))
    return tables


def broken(tables):
    """All broken rules, in the order in which they're told."""
    found = []
    for table, rows in enumerate(tables):
        for number in sorted(rows):
            for index, (target, first, second, unique) in enumerate(COLUMNS[table]):
                value = rows[number][index]
                if target is None and not first <= value <= second:
                    found.append([2, table, number, index])
                if target is not None and (value not in tables[target] if value else not first):
                    found.append([3, table, number, index])
                if unique and (target is None or value) and [row[index] for row in rows.values()].count(value) > 1:
                    found.append([4, table, number, index])
    return found


class Account:
    """What a session should hold, by the answers so far."""

    def __init__(self, tables):
        self.begin(tables)

    def begin(self, tables):
        self.loaded = self.now = tables
        self.past = []
        self.ahead = []

    def follow(self, call, reply, now):
        """What's expected of the answer, and of what's now, if that follows from the account."""
        if call == UNDO or call == REDO:
            return self.step(*((self.past, self.ahead) if call == UNDO else (self.ahead, self.past)))
        if call == FLUSH:
            return self.flush()
        if call == ROLLBACK:
            changes = len(told_changes(self.loaded, self.now))
            self.begin(self.loaded)
            return [0, changes], self.now
        if reply[0] != 0:
            return reply, self.now
        self.past = (self.past + [self.now])[-10:]
        self.ahead = []
        self.now = now
        return reply, now

    def step(self, source, goal):
        if not source:
            return [-9], self.now
        goal.append(self.now)
        self.now = source.pop()
        return [0], self.now

    def flush(self):
        changes = len(told_changes(self.loaded, self.now))
        keys = made_keys(self.loaded, self.now)
        tables = keyed(self.now, keys)
        faults = broken(tables)
        if faults:
            return [1, *faults[0]], self.now
        self.begin(tables)
        return [0, changes, len(keys)] + [number for key in keys for number in key], tables


class ManyLines(unittest.TestCase):

    def answered(self, seed):
        """The calls of a line, and behind each the answers of it, tables and changed."""
        dice = random.Random(seed)
        calls = [one_call(dice) for each in range(32)]
        told = replies(load(TEXT), ROWS, *[each for call in calls for each in (call, TABLES, CHANGED)])
        self.assertEqual(told[:2], [[0, 3, 9], [0]])
        return zip(calls, told[2::3], told[3::3], told[4::3])

    def test_as_accounted(self):
        seen = set()
        for seed in range(400):
            account = Account(read_tables([0, *ROWS[2:]]))
            for call, reply, tables, changed in self.answered(seed):
                now = read_tables(tables)
                self.assertEqual((reply, now), account.follow(call, reply, now), (seed, call))
                changes = told_changes(account.loaded, now)
                self.assertEqual(changed, [0, len(changes)] + [number for change in changes for number in change], (seed, call))
                seen.add((call[0], min(reply[0], 1)))
        # Each call of these was answered with 0, and each that may fail with something else too.
        self.assertEqual({(call, 0) for call in (2, 3, 4, 5, 7, 11, 12, 13, 14, 15)} - seen, set())
        self.assertEqual({(2, 1), (3, 1), (4, 1), (5, 1), (11, 1), (12, -9), (13, -9), (14, 1)} - seen, set())

    def test_find_tells_what_tables_tells(self):
        for seed in range(60):
            dice = random.Random(5000 + seed)
            calls = [load(TEXT), ROWS] + [one_call(dice) for each in range(30)]
            asked = [(table, column, value) for table in range(3) for column in range(len(COLUMNS[table])) for value in (0, 1, 2, 100, 101, 103)]
            told = replies(*calls, TABLES, *[find(*question) for question in asked])[len(calls):]
            now = read_tables(told[0])
            for (table, column, value), reply in zip(asked, told[1:]):
                there = sorted(number for number, values in now[table].items() if values[column] == value)
                self.assertEqual(reply, [0, len(there), *there], (seed, table, column, value))

    def test_behind_a_flush_or_rollback_all_is_as_loaded(self):
        for seed in range(60):
            dice = random.Random(9000 + seed)
            calls = [load(TEXT), ROWS] + [one_call(dice) for each in range(40)]
            for call in (FLUSH, ROLLBACK):
                told = replies(*calls, call, CHANGED, UNDO, REDO, call)[len(calls):]
                if told[0][0] == 0:
                    self.assertEqual(told[1:], [[0, 0], [-9], [-9], [0, 0, 0] if call == FLUSH else [0, 0]], seed)
