"""The calls that only tell what's now. Each gives back its answer."""

from objectsessions.links import referring
from objectsessions.state import refuse_list, refuse_object

AS_LOADED = 0
IS_NEW = 1
IS_CHANGED = 2


def tell_list(session, table, number, other, index):
    refusal = refuse_list(session, table, number, other, index)
    if refusal != 0:
        return [refusal]
    numbers = referring(session.now, other, index, number)
    return [0, len(numbers)] + numbers


def standing(session, table, number):
    """How an object stands to what was loaded."""
    if number not in session.loaded[table]:
        return IS_NEW
    same = session.now[table][number] == session.loaded[table][number]
    return AS_LOADED if same else IS_CHANGED


def tell_row(session, table, number):
    refusal = refuse_object(session, table, number)
    if refusal != 0:
        return [refusal]
    return [0, standing(session, table, number)] + list(session.now[table][number])
