"""What the tests share: the calls as numbers, and answers cut up call by call."""

import unittest

from objectsessions.sessions import answers

HUGE = 10 ** 18

CHANGED = [10]
UNDO = [12]
REDO = [13]
FLUSH = [14]
ROLLBACK = [15]
TABLES = [16]


def load(text):
    numbers = list(text.encode("latin-1")) if isinstance(text, str) else list(text)
    return [0, len(numbers), *numbers]


def fill(*rows):
    return [1, len(rows), *rows]


def new(table, *values):
    return [2, table, len(values), *values]


def set_(table, number, column, value):
    return [3, table, number, column, value]


def remove(table, number):
    return [4, table, number]


def back(table, number):
    return [5, table, number]


def list_(table, number, other, column):
    return [6, table, number, other, column]


def relist(table, number, other, column, *objects):
    return [7, table, number, other, column, len(objects), *objects]


def row(table, number):
    return [8, table, number]


def find(table, column, value):
    return [9, table, column, value]


def refresh(table, number):
    return [11, table, number]


def line(*calls):
    """One list of all the calls."""
    return [number for call in calls for number in call]


def cut(told):
    """The answers, a list each, of what answers gave back."""
    replies = []
    place = 0
    while place < len(told):
        behind = place + 1 + told[place]
        if behind > len(told):
            raise ValueError("an answer is shorter than told")
        replies.append(told[place + 1:behind])
        place = behind
    return replies


def replies(*calls):
    return cut(answers(line(*calls)))


class LineTest(unittest.TestCase):
    """A test that sends lines."""

    maxDiff = None

    def check(self, *steps):
        """Steps are pairs of a call and its answer, all on one line."""
        told = replies(*[call for call, answer in steps])
        self.assertEqual(told, [answer for call, answer in steps])

    def check_last(self, before, *steps):
        """The same behind calls whose answers only may not be refusals."""
        told = replies(*before, *[call for call, answer in steps])
        for reply in told[:len(before)]:
            self.assertEqual(reply[0], 0, told)
        self.assertEqual(told[len(before):], [answer for call, answer in steps])
