"""The interface: one list in, one list out, nothing kept and nothing changed; and the document's example."""

import random
import unittest

from objectsessions.sessions import answers
from tests.helper import (CHANGED, FLUSH, REDO, ROLLBACK, TABLES, UNDO, LineTest, back, cut, fill, find, line, list_, load, new,
                          refresh, relist, remove, replies, row, set_)

EXAMPLE = "table p { age: number from 0 to 9; boss: ref p none clear; } table q { of: ref p cascade unique; }"
STEPS = (
    (load(EXAMPLE), [0, 2, 3]),
    (fill(2, 1, 5, 0, 2, 5, 1, 1, 7, 2), [0]),
    (new(0, 3, 2), [0, 100]),
    (new(1, 100), [0, 101]),
    (list_(0, 2, 0, 1), [0, 1, 100]),
    (relist(0, 100, 0, 1, 1, 2), [0]),
    (row(0, 2), [0, 2, 5, 100]),
    (CHANGED, [0, 4, 1, 0, 1, 1, 1, 1, 0, 2, 1, 1, 0, 0, 100, 0, 1, 101]),
    (remove(0, 1), [0, 1]),
    (UNDO, [0]),
    (set_(0, 100, 0, 30), [0]),
    (FLUSH, [1, 2, 0, 3, 0]),
    (UNDO, [0]),
    (FLUSH, [0, 4, 2, 0, 100, 3, 1, 101, 1]),
    (TABLES, [0, 3, 1, 5, 3, 2, 5, 3, 3, 3, 2, 2, 1, 3, 7, 2]),
)
ALL_CALLS = [call for call, answer in STEPS] + [
    set_(0, 1, 0, 8), set_(0, 1, 0, 2000000), set_(0, 1, 7, 0), remove(0, 2), back(0, 2), back(1, 7), fill(1), load("table p {"),
    row(1, 7), relist(0, 1, 1, 0), remove(5, 5), find(0, 0, 5), find(0, 0, 10 ** 18), find(0, 7, 0), refresh(0, 1), refresh(0, 1), refresh(0, 77),
    REDO, UNDO, REDO, CHANGED, new(0, 9, 0), FLUSH, set_(0, 1, 0, 7), ROLLBACK, new(0, 9, 0), TABLES]


class Frozen(list):
    """A list that tells when it's changed."""

    def refuse(self, *arguments, **keywords):
        raise AssertionError("the list handed in was changed")

    __setitem__ = __delitem__ = __iadd__ = __imul__ = refuse
    append = extend = insert = pop = remove = clear = sort = reverse = refuse


class Example(LineTest):

    def test_it_is_answered_as_told(self):
        self.check(*STEPS)

    def test_each_beginning_of_it_too(self):
        for many in range(1, len(STEPS)):
            self.check(*STEPS[:many])


class Interface(unittest.TestCase):

    def test_how_answers_are_given_back(self):
        self.assertEqual(answers(line(load("table p { a: number; }"), new(0, -3), row(0, 100), row(0, 5), new(0, 2000000))),
                         [3, 0, 1, 1, 2, 0, 100, 3, 0, 1, -3, 1, -5, 2, 1, 0])

    def test_the_numbers_of_the_calls(self):
        text = list(b"table p{a:ref p none;}")
        calls = [0, len(text), *text, 1, 5, 2, 4, 0, 6, 4, 2, 0, 1, 6, 3, 0, 100, 0, 4, 6, 0, 4, 0, 0, 7, 0, 4, 0, 0, 1, 6,
                 8, 0, 100, 4, 0, 6, 5, 0, 6]
        self.assertEqual(cut(answers(calls)), [[0, 1, 1], [0], [0, 100], [0], [0, 2, 6, 100], [0], [0, 1, 0], [0, 1], [0, 4]])
        self.assertEqual(cut(answers(calls + [9, 0, 0, 0, 10, 3, 0, 6, 0, 0, 11, 0, 6, 12, 13, 14, 15, 16])),
                         cut(answers(calls)) + [[0, 2, 4, 100], [0, 1, 0, 0, 100], [0], [0, 4], [0], [0], [0, 1, 1, 0, 100, 1], [0, 0],
                                                [0, 3, 1, 0, 4, 0, 6, 4]])

    def test_each_call_without_tables(self):
        self.assertEqual(answers([9, 0, 0, 0, 10, 11, 0, 1, 12, 13, 14, 15, 16]),
                         [1, -3, 2, 0, 0, 1, -3, 1, -9, 1, -9, 3, 0, 0, 0, 2, 0, 0, 1, 0])
        for call in range(10, 17):
            if call != 11:
                self.assertEqual(replies([call]), [{10: [0, 0], 12: [-9], 13: [-9], 14: [0, 0, 0], 15: [0, 0], 16: [0]}[call]])

    def test_lists_may_be_empty(self):
        self.assertEqual(answers([0, 0, 1, 0, 2, 0, 0]), [3, 0, 0, 0, 1, 0, 1, -3])

    def test_it_gives_back_a_list_of_whole_numbers(self):
        told = answers(line(*ALL_CALLS))
        self.assertIs(type(told), list)
        self.assertEqual([number for number in told if type(number) is not int], [])

    def test_the_list_handed_in_is_not_changed(self):
        calls = line(*ALL_CALLS)
        before = list(calls)
        answers(calls)
        self.assertEqual(calls, before)

    def test_nor_for_a_while(self):
        calls = line(*ALL_CALLS)
        self.assertEqual(answers(Frozen(calls)), answers(calls))

    def test_a_second_time_is_as_the_first(self):
        first = answers(line(*ALL_CALLS))
        self.assertEqual(answers(line(*ALL_CALLS)), first)
        first.clear()
        self.assertNotEqual(answers(line(*ALL_CALLS)), first)

    def test_nothing_is_kept(self):
        answers(line(*ALL_CALLS))
        self.assertEqual(replies(row(0, 1), fill(), new(0, 3, 2)), [[-3], [0], [-3]])
        self.assertEqual(replies(load(EXAMPLE), row(0, 1), new(0, 3, 0)), [[0, 2, 3], [-5], [0, 100]])
        answers(line(load("table p {}"), new(0), new(0), UNDO))
        self.assertEqual(replies(UNDO, REDO, CHANGED, TABLES, ROLLBACK, FLUSH), [[-9], [-9], [0, 0], [0], [0, 0], [0, 0, 0]])
        self.assertEqual(replies(load("table p {}"), REDO, UNDO, new(0), TABLES), [[0, 1, 0], [-9], [-9], [0, 100], [0, 1, 100]])

    def test_100_calls(self):
        told = replies(load("table p {}"), *[row(0, 1)] * 99)
        self.assertEqual(told, [[0, 1, 0]] + [[-5]] * 99)

    def test_17000_numbers(self):
        text = "table p { a: ref p none; }"
        long = load(text + "#" * (4096 - len(text)))
        self.assertEqual(replies(*[long] * 4, new(0, 0)), [[0, 1, 1]] * 4 + [[0, 100]])


class ManyLines(unittest.TestCase):
    """What is kept in a session, on lines made up by a fixed rule."""

    columns = [["number", 0, 1], [2, 2], ["number", 0, 1]]
    text = ("table p { n: number; a: ref p none clear; b: ref q none; } table q { c: ref r none cascade; d: ref r none clear; }"
            " table r { n: number; e: ref p none clear; f: ref q none cascade; }")
    numbers = (0, 1, 2, 3, 100, 101, 102, 103, 104)

    def one_call(self, dice):
        table = dice.randrange(3)
        number = dice.choice(self.numbers)
        column = dice.randrange(3)
        kind = dice.randrange(6)
        if kind == 0:
            return new(table, *[dice.choice(self.numbers) for each in self.columns[table]])
        if kind < 3:
            return set_(table, number, column, dice.choice(self.numbers))
        if kind == 3:
            return remove(table, number)
        if kind == 4:
            return back(table, number)
        return relist(table, number, dice.randrange(3), column, *[dice.choice(self.numbers) for each in range(dice.randrange(3))])

    def seen(self, calls):
        """All rows as they are behind the calls, which row calls tell one table at a time."""
        rows = {}
        for table in range(3):
            told = replies(*calls, *[row(table, number) for number in self.numbers])[len(calls):]
            rows.update({(table, number): reply[2:] for number, reply in zip(self.numbers, told) if reply[0] == 0})
        return rows

    def test_references_are_none_or_to_objects_that_are_there(self):
        for seed in range(150):
            dice = random.Random(seed)
            calls = [load(self.text), fill(3, 1, 7, 2, 1, 2, 8, 2, 0, 3, 9, 0, 2, 2, 1, 1, 0, 2, 2, 1, 2, 1, 5, 3, 1, 2, 6, 0, 0)]
            calls += [self.one_call(dice) for each in range(30)]
            rows = self.seen(calls)
            for (table, number), values in rows.items():
                for target, value in zip(self.columns[table], values):
                    if target != "number":
                        self.assertTrue(value == 0 or (target, value) in rows, (seed, table, number, values))

    def test_both_sides_of_a_reference_agree(self):
        for seed in range(50):
            dice = random.Random(1000 + seed)
            calls = [load(self.text)] + [self.one_call(dice) for each in range(30)]
            rows = self.seen(calls)
            asked = [(table, number, other, column) for table, number in rows for other in range(3)
                     for column, target in enumerate(self.columns[other]) if target == table]
            told = [replies(*calls, list_(*question))[-1] for question in asked]
            for (table, number, other, column), reply in zip(asked, told):
                there = sorted(each[1] for each in rows if each[0] == other and rows[each][column] == number)
                self.assertEqual(reply, [0, len(there), *there])
