"""References between objects: those to an object, and what comes of them when objects are removed."""

from objectsessions.schemas import CASCADE, CLEAR, REFUSE
from objectsessions.tables import with_value


class Link:
    """A reference that isn't none: which object has it, in which column, and to which object."""

    def __init__(self, table, number, index, column, value):
        self.table = table
        self.number = number
        self.index = index
        self.removal = column.removal
        self.holder = (table, number)
        self.goal = (column.target, value)


def links_of_row(columns, table, number, row):
    links = []
    for index, column in enumerate(columns):
        if column.target is not None and row[index] != 0:
            links.append(Link(table, number, index, column, row[index]))
    return links


def all_links(schema, tables):
    """Every link, by tables, then by numbers, then by columns."""
    links = []
    for table, columns in enumerate(schema):
        for number in sorted(tables[table]):
            links.extend(links_of_row(columns, table, number, tables[table][number]))
    return links


def going_with(links, first):
    """The objects, as keys, that go if the first one does: itself, and those that cascades take along."""
    going = {first: True}
    grown = True
    while grown:
        grown = False
        for link in links:
            if link.removal == CASCADE and link.goal in going and link.holder not in going:
                going[link.holder] = True
                grown = True
    return going


def first_refusing(links, going):
    """The first link that keeps objects from going, or None."""
    for link in links:
        if link.removal == REFUSE and link.goal in going and link.holder not in going:
            return link
    return None


def without(tables, links, going):
    """Tables without the objects that go, and with the references cleared that clear columns had to them."""
    others = []
    for table, rows in enumerate(tables):
        others.append(dict([(number, rows[number]) for number in rows if (table, number) not in going]))
    for link in links:
        if link.removal == CLEAR and link.goal in going and link.holder not in going:
            staying = others[link.table]
            staying[link.number] = with_value(staying[link.number], link.index, 0)
    return others
