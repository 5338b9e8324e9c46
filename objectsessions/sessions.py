"""Answers a line of calls on one object, which is new at the line's beginning."""

from objectsessions.deeds import bring_back, make_list, make_object, refresh_object, remove_object, set_value
from objectsessions.holdings import fill_tables, flush_tables, load_text, redo_deed, roll_back, undo_deed
from objectsessions.questions import tell_changes, tell_found, tell_list, tell_row, tell_tables
from objectsessions.state import Session

# For each call: its word, how many whole numbers it has, and if a list stands behind them.
CALLS = {
    0: ("load", 0, True),
    1: ("fill", 0, True),
    2: ("new", 1, True),
    3: ("set", 4, False),
    4: ("remove", 2, False),
    5: ("back", 2, False),
    6: ("list", 4, False),
    7: ("relist", 4, True),
    8: ("row", 2, False),
    9: ("find", 3, False),
    10: ("changed", 0, False),
    11: ("refresh", 2, False),
    12: ("undo", 0, False),
    13: ("redo", 0, False),
    14: ("flush", 0, False),
    15: ("rollback", 0, False),
    16: ("tables", 0, False),
}

DEEDS = ("new", "set", "remove", "back", "relist", "refresh")
QUESTIONS = ("list", "row", "find", "changed", "tables")


def answer_deed(session, word, numbers, row):
    if word == "new":
        return make_object(session, numbers[0], row)
    if word == "set":
        return set_value(session, numbers[0], numbers[1], numbers[2], numbers[3])
    if word == "remove":
        return remove_object(session, numbers[0], numbers[1])
    if word == "back":
        return bring_back(session, numbers[0], numbers[1])
    if word == "relist":
        return make_list(session, numbers[0], numbers[1], numbers[2], numbers[3], row)
    return refresh_object(session, numbers[0], numbers[1])


def answer_question(session, word, numbers):
    if word == "list":
        return tell_list(session, numbers[0], numbers[1], numbers[2], numbers[3])
    if word == "row":
        return tell_row(session, numbers[0], numbers[1])
    if word == "find":
        return tell_found(session, numbers[0], numbers[1], numbers[2])
    if word == "changed":
        return tell_changes(session)
    return tell_tables(session)


def answer_holding(session, word, row):
    if word == "load":
        return load_text(session, row)
    if word == "fill":
        return fill_tables(session, row)
    if word == "undo":
        return undo_deed(session)
    if word == "redo":
        return redo_deed(session)
    if word == "flush":
        return flush_tables(session)
    return roll_back(session)


def answer_call(session, word, numbers, row):
    """The answer to a call with these whole numbers, and this list, if it has one."""
    if word in DEEDS:
        return answer_deed(session, word, numbers, row)
    if word in QUESTIONS:
        return answer_question(session, word, numbers)
    return answer_holding(session, word, row)


def answers(calls):
    """For each call, in order: how many numbers are answered, and these."""
    session = Session()
    told = []
    place = 0
    while place < len(calls):
        call = CALLS[calls[place]]
        behind = place + 1 + call[1]
        numbers = calls[place + 1:behind]
        row = []
        if call[2]:
            start = behind + 1
            behind = start + calls[behind]
            row = calls[start:behind]
        reply = answer_call(session, call[0], numbers, row)
        told.append(len(reply))
        told.extend(reply)
        place = behind
    return told
