"""The catalogue: where its numbers stand in the list, and whether it is as told."""

MOST_TABLES = 8
MOST_COLS = 4
MOST_ROWS = 4096
MOST_ALIKE = 4096

# ctable is the count of tables, then of each table
# cols, rows, indexed, none, the count of alike, and four numbers of alike.
FIRST_TABLE = 1
TABLE_LENGTH = 9
ROWS = 1
INDEXED = 2
NONE = 3
FIRST_ALIKE = 5


def table_start(table):
    return FIRST_TABLE + TABLE_LENGTH * table


def cols_of(ctable, table):
    return ctable[table_start(table)]


def rows_of(ctable, table):
    return ctable[table_start(table) + ROWS]


def indexed_of(ctable, table):
    return ctable[table_start(table) + INDEXED]


def none_of(ctable, table):
    return ctable[table_start(table) + NONE]


def alike_of(ctable, table, column):
    return ctable[table_start(table) + FIRST_ALIKE + column]


def column_indexed(ctable, table, column):
    return (indexed_of(ctable, table) >> column) % 2 == 1


def alike_as_told(ctable, table):
    for column in range(cols_of(ctable, table)):
        if not 0 <= alike_of(ctable, table, column) <= MOST_ALIKE:
            return False
    return True


def table_as_told(ctable, table):
    cols = cols_of(ctable, table)
    # cols is asked first: the bits and the columns are only told by a count that is right.
    if not 1 <= cols <= MOST_COLS:
        return False
    if not 0 <= rows_of(ctable, table) <= MOST_ROWS:
        return False
    if indexed_of(ctable, table) >> cols != 0:
        return False
    if none_of(ctable, table) != 0:
        return False
    return alike_as_told(ctable, table)


def catalogue_as_told(ctables, cnone, ctable):
    if not 1 <= ctables <= MOST_TABLES:
        return False
    if cnone != 0:
        return False
    for table in range(ctables):
        if not table_as_told(ctable, table):
            return False
    return True
