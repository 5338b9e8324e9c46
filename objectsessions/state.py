"""What's held between calls, and the refusals that several calls share."""

NO_TABLE = -3
NO_OBJECT = -5
NO_COLUMN = -7
NOT_TO_TABLE = -8

MOST_KEPT = 10


class Session:
    """A schema, its tables as they were loaded and as they are now, how many new objects were made,
    and the moments to which undo and redo lead, the next one last."""

    def __init__(self):
        self.schema = []
        self.loaded = []
        self.now = []
        self.made = 0
        self.past = []
        self.undone = []

    def hold(self, schema, tables):
        """Begins anew with these tables, loaded and now."""
        self.schema = schema
        self.loaded = tables
        self.now = tables
        self.made = 0
        self.past = []
        self.undone = []

    def present(self):
        """This moment. It tells how many were made too: the number of one whose making is undone is used again."""
        return (self.now, self.made)

    def change(self, tables):
        """A deed, be what's now changed by it or not: it's one to be undone, and nothing is done again."""
        moments = self.past + [self.present()]
        self.past = moments[-MOST_KEPT:]
        self.undone = []
        self.now = tables

    def go_to(self, moment):
        self.now = moment[0]
        self.made = moment[1]


def refuse_table(session, table):
    """The refusal, or 0 if there's such a table."""
    return 0 if 0 <= table < len(session.schema) else NO_TABLE


def refuse_object(session, table, number):
    """The refusal, or 0 if there's such an object now."""
    refusal = refuse_table(session, table)
    if refusal == 0 and number not in session.now[table]:
        return NO_OBJECT
    return refusal


def refuse_column(session, table, index):
    """The refusal, or 0 if there's such a column of such a table."""
    refusal = refuse_table(session, table)
    if refusal == 0 and not 0 <= index < len(session.schema[table]):
        return NO_COLUMN
    return refusal


def refuse_list(session, table, number, other, index):
    """The refusal, or 0 if there's such an object and it has a list over the other table's column."""
    refusal = refuse_object(session, table, number)
    if refusal == 0:
        refusal = refuse_column(session, other, index)
    if refusal == 0 and session.schema[other][index].target != table:
        return NOT_TO_TABLE
    return refusal
