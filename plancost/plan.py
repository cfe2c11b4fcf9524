"""The plan: by which columns its steps are tied, and whether it is one of a question."""

from plancost.catalogue import column_indexed
from plancost.question import EQUAL, NO_PLACE, a_of, b_of, i_of, j_of, op_of

# Stands in by where a step's table is scanned.
SCANNED = 255

# Stands for a column where a condition doesn't tie the place.
NO_COLUMN = -1


# The column of the place that the condition ties to a number or to an earlier place.
def tied_column(qcond, cond, place, earlier):
    if op_of(qcond, cond) != EQUAL:
        return NO_COLUMN
    a = a_of(qcond, cond)
    b = b_of(qcond, cond)
    if a == place and (b == NO_PLACE or b in earlier):
        return i_of(qcond, cond)
    if b == place and a in earlier:
        return j_of(qcond, cond)
    return NO_COLUMN


def order_right(qtables, order):
    for step in range(qtables):
        if not 0 <= order[step] < qtables:
            return False
        if order[step] in order[:step]:
            return False
    return True


def lookup_right(qconds, ctable, qtable, qcond, cond, place, earlier):
    if not 0 <= cond < qconds:
        return False
    column = tied_column(qcond, cond, place, earlier)
    if column == NO_COLUMN:
        return False
    return column_indexed(ctable, qtable[place], column)


def by_right(qtables, qconds, ctable, qtable, qcond, order, by):
    for step in range(qtables):
        if by[step] == SCANNED:
            continue
        if not lookup_right(qconds, ctable, qtable, qcond, by[step], order[step], order[:step]):
            return False
    return True


# The question that it is asked of is right.
def plan_right(qtables, qconds, ctable, qtable, qcond, order, by):
    # The order is asked first: a step is only looked up in a place that is there.
    if not order_right(qtables, order):
        return False
    return by_right(qtables, qconds, ctable, qtable, qcond, order, by)
