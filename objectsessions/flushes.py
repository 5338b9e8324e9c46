"""What a flush makes of a session: keys for new objects, and the tables with these."""

from objectsessions.tables import LEAST_ID


def new_objects(session):
    """Each new object that's there, as its table and number, in the order in which they were made."""
    found = []
    for table, rows in enumerate(session.now):
        loaded = session.loaded[table]
        found.extend([(number, table) for number in rows if number not in loaded])
    # Over all tables, the numbers of new objects rise in the order in which these are made.
    return [(table, number) for number, table in sorted(found)]


def least_free(taken):
    key = LEAST_ID
    while key in taken:
        key += 1
    return key


def make_keys(session):
    """The key of each new object, told by its table and number, in the order in which they were made."""
    taken = []
    for table, rows in enumerate(session.now):
        taken.append(list(session.loaded[table]) + list(rows))
    keys = {}
    for table, number in new_objects(session):
        key = least_free(taken[table])
        taken[table].append(key)
        keys[(table, number)] = key
    return keys


def value_with_key(column, keys, value):
    """The value, or, of a reference to a new object, that one's key."""
    if column.target is None:
        return value
    return keys.get((column.target, value), value)


def with_keys(schema, tables, keys):
    """The tables, where new objects and references to them are told by keys."""
    others = []
    for table, columns in enumerate(schema):
        rows = {}
        for number, row in tables[table].items():
            values = [value_with_key(column, keys, row[index]) for index, column in enumerate(columns)]
            rows[keys.get((table, number), number)] = tuple(values)
        others.append(rows)
    return others
