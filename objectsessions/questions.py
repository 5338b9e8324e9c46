"""The calls that only tell what's now. Each gives back its answer."""

from objectsessions.changes import all_changes, standing
from objectsessions.state import refuse_column, refuse_list, refuse_object
from objectsessions.tables import having


def tell_set(numbers):
    return [0, len(numbers)] + numbers


def tell_list(session, table, number, other, index):
    refusal = refuse_list(session, table, number, other, index)
    if refusal != 0:
        return [refusal]
    return tell_set(having(session.now, other, index, number))


def tell_row(session, table, number):
    refusal = refuse_object(session, table, number)
    if refusal != 0:
        return [refusal]
    return [0, standing(session, table, number)] + list(session.now[table][number])


def tell_found(session, table, index, value):
    refusal = refuse_column(session, table, index)
    if refusal != 0:
        return [refusal]
    return tell_set(having(session.now, table, index, value))


def tell_changes(session):
    changes = all_changes(session)
    told = [0, len(changes)]
    for change in changes:
        told.extend(change)
    return told


def tell_tables(session):
    told = [0]
    for rows in session.now:
        told.append(len(rows))
        for number in sorted(rows):
            told.append(number)
            told.extend(rows[number])
    return told
