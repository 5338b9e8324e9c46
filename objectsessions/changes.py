"""How what's now stands to what was loaded."""

AS_LOADED = 0
IS_NEW = 1
IS_CHANGED = 2

CHANGE_NEW = 0
CHANGE_VALUES = 1
CHANGE_GONE = 2


def standing(session, table, number):
    """How an object stands to what was loaded."""
    if number not in session.loaded[table]:
        return IS_NEW
    same = session.now[table][number] == session.loaded[table][number]
    return AS_LOADED if same else IS_CHANGED


def differing(before, after):
    """The columns in which two rows differ."""
    return [index for index, value in enumerate(before) if value != after[index]]


def changes_of_table(session, table):
    """Each change of a table, as it's told: those of objects by their numbers, then those that are gone."""
    loaded = session.loaded[table]
    now = session.now[table]
    changes = []
    for number in sorted(now):
        found = standing(session, table, number)
        if found == IS_NEW:
            changes.append([CHANGE_NEW, table, number])
        elif found == IS_CHANGED:
            columns = differing(loaded[number], now[number])
            changes.append([CHANGE_VALUES, table, number, len(columns)] + columns)
    for number in sorted(loaded):
        if number not in now:
            changes.append([CHANGE_GONE, table, number])
    return changes


def all_changes(session):
    changes = []
    for table in range(len(session.schema)):
        changes.extend(changes_of_table(session, table))
    return changes
