"""What a plan costs: the pages that its steps read, and the rows that come to them, at most."""

from plancost.catalogue import alike_of, rows_of
from plancost.plan import NO_COLUMN, SCANNED, tied_column

ROWS_A_PAGE = 16
ENTRIES_A_PAGE = 32
MORE_A_LOOKUP = 2


def parts_rounded_up(number, part):
    return (number + part - 1) // part


def scan_pages(rows):
    return parts_rounded_up(rows, ROWS_A_PAGE)


def lookup_pages(rows, alike):
    digits = parts_rounded_up(rows, ENTRIES_A_PAGE).bit_length()
    return digits + parts_rounded_up(alike, ENTRIES_A_PAGE) + alike + MORE_A_LOOKUP


def step_pages(ctable, qtable, qcond, place, earlier, way):
    table = qtable[place]
    rows = rows_of(ctable, table)
    if way == SCANNED:
        return scan_pages(rows)
    column = tied_column(qcond, way, place, earlier)
    return lookup_pages(rows, alike_of(ctable, table, column))


# How many rows of the place go with one row that comes to its step. All ties count,
# not the one alone by which it is looked up.
def most_rows_found(qconds, ctable, qtable, qcond, place, earlier):
    table = qtable[place]
    least = rows_of(ctable, table)
    for cond in range(qconds):
        column = tied_column(qcond, cond, place, earlier)
        if column != NO_COLUMN:
            least = min(least, alike_of(ctable, table, column))
    return least


# Of each step how many rows come to it.
def rows_coming(qtables, qconds, ctable, qtable, qcond, order):
    coming = [1]
    for step in range(qtables - 1):
        found = most_rows_found(qconds, ctable, qtable, qcond, order[step], order[:step])
        coming.append(coming[step] * found)
    return coming


# The plan is one of the question.
def plan_cost(qtables, qconds, ctable, qtable, qcond, order, by):
    coming = rows_coming(qtables, qconds, ctable, qtable, qcond, order)
    cost = 0
    for step in range(qtables):
        cost = cost + coming[step] * step_pages(ctable, qtable, qcond, order[step], order[:step], by[step])
    return cost
