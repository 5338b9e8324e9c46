"""Schemas: what a text tells of tables and their columns."""

from objectsessions.tokens import CANNOT_HOLD, END, NO_SUCH_TABLE, TOO_MANY, Reader, TextFault, reject

MOST_TABLES = 4
MOST_COLUMNS = 4
LEAST_VALUE = -1000000
MOST_VALUE = 1000000

REFUSE = "refuse"
CASCADE = "cascade"
CLEAR = "clear"


class Column:
    """A column of numbers from low to high, or, if it has a target, of references to that table."""

    def __init__(self):
        self.low = LEAST_VALUE
        self.high = MOST_VALUE
        self.target = None
        self.optional = False
        self.removal = REFUSE
        self.unique = False


class Mention:
    """A table's name behind ref: the table may stand later in the text, so it's looked up at the end."""

    def __init__(self, column, token):
        self.column = column
        self.name = token.text
        self.place = token.place


def read_range(reader, column):
    if not reader.accepts("from"):
        return
    column.low = reader.take_number()
    reader.want("to")
    place = reader.ahead()
    column.high = reader.take_number()
    if column.high < column.low:
        raise TextFault(CANNOT_HOLD, place)


def read_removal(reader, column):
    if reader.accepts("cascade"):
        column.removal = CASCADE
        return
    place = reader.ahead()
    if reader.accepts("clear"):
        if not column.optional:
            raise TextFault(CANNOT_HOLD, place)
        column.removal = CLEAR


def read_column(reader, mentions):
    """What stands behind a column's name."""
    column = Column()
    reader.want(":")
    if reader.accepts("number"):
        read_range(reader, column)
    else:
        reader.want("ref")
        mentions.append(Mention(column, reader.take_name()))
        column.optional = reader.accepts("none")
        read_removal(reader, column)
    column.unique = reader.accepts("unique")
    reader.want(";")
    return column


def refuse_fifth_column(reader):
    # What stands there isn't read as a token: it may be anything but the closing sign.
    place = reader.ahead()
    if reader.text[place:place + 1] != "}":
        raise TextFault(TOO_MANY, place)


def read_columns(reader, mentions):
    """The columns of a table by their names, with the signs around them."""
    columns = {}
    reader.want("{")
    if reader.accepts("}"):
        return columns
    while True:
        name = reader.take_new_name(columns)
        columns[name] = read_column(reader, mentions)
        if len(columns) == MOST_COLUMNS:
            refuse_fifth_column(reader)
        if reader.accepts("}"):
            return columns


def read_tables(reader, mentions):
    """The tables by their names, each with its columns by theirs."""
    tables = {}
    while reader.look().kind != END:
        token = reader.take()
        if token.text != "table":
            reject(token)
        if len(tables) == MOST_TABLES:
            raise TextFault(TOO_MANY, token.place)
        name = reader.take_new_name(tables)
        tables[name] = read_columns(reader, mentions)
    return tables


def settle_mentions(mentions, names):
    for mention in mentions:
        if mention.name not in names:
            raise TextFault(NO_SUCH_TABLE, mention.place)
        column = mention.column
        column.target = names.index(mention.name)


def read_schema(numbers):
    """The schema that a text tells, a list of each table's list of columns; or its TextFault."""
    mentions = []
    tables = read_tables(Reader(numbers), mentions)
    settle_mentions(mentions, list(tables))
    return [list(columns.values()) for columns in tables.values()]
