"""Answers a line of calls on one object, which is new at the line's beginning."""

from objectsessions.deeds import bring_back, make_list, make_object, remove_object, set_value
from objectsessions.questions import tell_list, tell_row
from objectsessions.schemas import read_schema
from objectsessions.state import Session
from objectsessions.tables import first_broken, read_rows
from objectsessions.tokens import TextFault

NO_BYTE = -1
TEXT_TOO_LONG = -2
NOT_ROWS = -4

MOST_BYTE = 255
MOST_TEXT = 4096

# For each call: its word, how many whole numbers it has, and if a list stands behind them.
CALLS = {
    0: ("load", 0, True),
    1: ("fill", 0, True),
    2: ("new", 1, True),
    3: ("set", 4, False),
    4: ("remove", 2, False),
    5: ("back", 2, False),
    6: ("list", 4, False),
    7: ("relist", 4, True),
    8: ("row", 2, False),
}


def load_text(session, text):
    if not all([0 <= number <= MOST_BYTE for number in text]):
        return [NO_BYTE]
    if len(text) > MOST_TEXT:
        return [TEXT_TOO_LONG]
    try:
        schema = read_schema(text)
    except TextFault as fault:
        return [1, fault.kind, fault.place]
    session.hold(schema, [{} for columns in schema])
    return [0, len(schema), sum([len(columns) for columns in schema])]


def fill_tables(session, numbers):
    tables = read_rows(session.schema, numbers)
    if tables is None:
        return [NOT_ROWS]
    broken = first_broken(session.schema, tables)
    if len(broken) > 0:
        return [1] + broken
    session.hold(session.schema, tables)
    return [0]


def answer_call(session, word, numbers, row):
    """The answer to a call with these whole numbers, and this list, if it has one."""
    if word == "load":
        return load_text(session, row)
    if word == "fill":
        return fill_tables(session, row)
    if word == "new":
        return make_object(session, numbers[0], row)
    if word == "set":
        return set_value(session, numbers[0], numbers[1], numbers[2], numbers[3])
    if word == "remove":
        return remove_object(session, numbers[0], numbers[1])
    if word == "back":
        return bring_back(session, numbers[0], numbers[1])
    if word == "list":
        return tell_list(session, numbers[0], numbers[1], numbers[2], numbers[3])
    if word == "relist":
        return make_list(session, numbers[0], numbers[1], numbers[2], numbers[3], row)
    return tell_row(session, numbers[0], numbers[1])


def answers(calls):
    """For each call, in order: how many numbers are answered, and these."""
    session = Session()
    told = []
    place = 0
    while place < len(calls):
        call = CALLS[calls[place]]
        behind = place + 1 + call[1]
        numbers = calls[place + 1:behind]
        row = []
        if call[2]:
            start = behind + 1
            behind = start + calls[behind]
            row = calls[start:behind]
        reply = answer_call(session, call[0], numbers, row)
        told.append(len(reply))
        told.extend(reply)
        place = behind
    return told
