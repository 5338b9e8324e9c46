"""The calls that change what's now. Each gives back its answer."""

from objectsessions.changes import AS_LOADED, IS_NEW, standing
from objectsessions.links import all_links, first_refusing, going_with, without
from objectsessions.state import NO_COLUMN, NO_OBJECT, refuse_column, refuse_list, refuse_object, refuse_table
from objectsessions.tables import MOST_ROWS, copy_tables, having, is_value, with_row, with_value

TABLE_FULL = -6
TOO_MANY_MADE = -10
NOT_IN_OTHER = -12

FIRST_NEW = 100
MOST_NEW = 60


def can_be_set(column, tables, value):
    if column.target is None:
        return is_value(value)
    return value == 0 or value in tables[column.target]


def is_full(session, table):
    return len(session.now[table]) >= MOST_ROWS


def refuse_new(session, table, values):
    refusal = refuse_table(session, table)
    if refusal != 0:
        return refusal
    if len(values) != len(session.schema[table]):
        return NO_COLUMN
    if is_full(session, table):
        return TABLE_FULL
    return TOO_MANY_MADE if session.made >= MOST_NEW else 0


def make_object(session, table, values):
    refusal = refuse_new(session, table, values)
    if refusal != 0:
        return [refusal]
    for index, column in enumerate(session.schema[table]):
        if not can_be_set(column, session.now, values[index]):
            return [1, index]
    number = FIRST_NEW + session.made
    session.change(with_row(session.now, table, number, values))
    session.made += 1
    return [0, number]


def set_value(session, table, number, index, value):
    refusal = refuse_object(session, table, number)
    if refusal == 0:
        refusal = refuse_column(session, table, index)
    if refusal != 0:
        return [refusal]
    if not can_be_set(session.schema[table][index], session.now, value):
        return [1]
    row = with_value(session.now[table][number], index, value)
    session.change(with_row(session.now, table, number, row))
    return [0]


def remove_object(session, table, number):
    refusal = refuse_object(session, table, number)
    if refusal != 0:
        return [refusal]
    links = all_links(session.schema, session.now)
    going = going_with(links, (table, number))
    link = first_refusing(links, going)
    if link is not None:
        return [1, link.table, link.number, link.index]
    session.change(without(session.now, links, going))
    return [0, len(going)]


def as_loaded(session, table, number):
    """The object's values as loaded, but references to objects that aren't there now are none."""
    values = []
    for index, column in enumerate(session.schema[table]):
        value = session.loaded[table][number][index]
        to_itself = column.target == table and value == number
        kept = to_itself or can_be_set(column, session.now, value)
        values.append(value if kept else 0)
    return values


def load_again(session, table, number):
    values = as_loaded(session, table, number)
    session.change(with_row(session.now, table, number, values))
    return [0] + values


def bring_back(session, table, number):
    refusal = refuse_table(session, table)
    if refusal != 0:
        return [refusal]
    if number not in session.loaded[table]:
        return [NO_OBJECT]
    if number in session.now[table]:
        return [1]
    if is_full(session, table):
        return [TABLE_FULL]
    return load_again(session, table, number)


def refresh_object(session, table, number):
    refusal = refuse_object(session, table, number)
    if refusal != 0:
        return [refusal]
    found = standing(session, table, number)
    if found == IS_NEW:
        return [1]
    if found == AS_LOADED:
        return [2]
    return load_again(session, table, number)


def with_list(tables, other, index, number, dropped, named):
    """Tables where those dropped refer to none and those named to the number."""
    others = copy_tables(tables)
    rows = others[other]
    for holder in dropped:
        rows[holder] = with_value(rows[holder], index, 0)
    for holder in named:
        rows[holder] = with_value(rows[holder], index, number)
    return others


def make_list(session, table, number, other, index, named):
    refusal = refuse_list(session, table, number, other, index)
    if refusal != 0:
        return [refusal]
    if not all([holder in session.now[other] for holder in named]):
        return [NOT_IN_OTHER]
    before = having(session.now, other, index, number)
    dropped = [holder for holder in before if holder not in named]
    if len(dropped) > 0 and not session.schema[other][index].optional:
        return [1, dropped[0]]
    session.change(with_list(session.now, other, index, number, dropped, named))
    return [0]
