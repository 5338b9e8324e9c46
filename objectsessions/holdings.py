"""The calls that change what's held, but are no deeds. Each gives back its answer."""

from objectsessions.changes import all_changes
from objectsessions.flushes import make_keys, with_keys
from objectsessions.schemas import read_schema
from objectsessions.tables import first_broken, read_rows
from objectsessions.tokens import TextFault

NO_BYTE = -1
TEXT_TOO_LONG = -2
NOT_ROWS = -4
NOTHING_KEPT = -9

MOST_BYTE = 255
MOST_TEXT = 4096


def load_text(session, text):
    if not all([0 <= number <= MOST_BYTE for number in text]):
        return [NO_BYTE]
    if len(text) > MOST_TEXT:
        return [TEXT_TOO_LONG]
    try:
        schema = read_schema(text)
    except TextFault as fault:
        return [1, fault.kind, fault.place]
    session.hold(schema, [{} for columns in schema])
    return [0, len(schema), sum([len(columns) for columns in schema])]


def fill_tables(session, numbers):
    tables = read_rows(session.schema, numbers)
    if tables is None:
        return [NOT_ROWS]
    broken = first_broken(session.schema, tables)
    if len(broken) > 0:
        return [1] + broken
    session.hold(session.schema, tables)
    return [0]


def move(session, moments, passed):
    """Goes to the last of the moments, and puts this one behind those passed, from where the way leads back."""
    if len(moments) == 0:
        return [NOTHING_KEPT]
    passed.append(session.present())
    session.go_to(moments.pop())
    return [0]


def undo_deed(session):
    return move(session, session.past, session.undone)


def redo_deed(session):
    return move(session, session.undone, session.past)


def flush_tables(session):
    changes = all_changes(session)
    keys = make_keys(session)
    tables = with_keys(session.schema, session.now, keys)
    broken = first_broken(session.schema, tables)
    if len(broken) > 0:
        return [1] + broken
    session.hold(session.schema, tables)
    told = [0, len(changes), len(keys)]
    for place, key in keys.items():
        told.extend([place[0], place[1], key])
    return told


def roll_back(session):
    changes = all_changes(session)
    session.hold(session.schema, session.loaded)
    return [0, len(changes)]
