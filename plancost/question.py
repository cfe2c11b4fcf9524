"""The question: where its numbers stand in the lists, and whether it is right of a catalogue."""

from plancost.catalogue import cols_of

MOST_PLACES = 5
MOST_CONDS = 12
MOST_OUTS = 8
EQUAL = 0
LAST_OP = 5

# Stands for b where a condition compares with the number j.
NO_PLACE = 255

# qcond is of each condition a, i, op, b, j; qout is of each out its place and its column.
COND_LENGTH = 5
OUT_LENGTH = 2


def a_of(qcond, cond):
    return qcond[COND_LENGTH * cond]


def i_of(qcond, cond):
    return qcond[COND_LENGTH * cond + 1]


def op_of(qcond, cond):
    return qcond[COND_LENGTH * cond + 2]


def b_of(qcond, cond):
    return qcond[COND_LENGTH * cond + 3]


def j_of(qcond, cond):
    return qcond[COND_LENGTH * cond + 4]


def out_place_of(qout, out):
    return qout[OUT_LENGTH * out]


def out_column_of(qout, out):
    return qout[OUT_LENGTH * out + 1]


def counts_as_told(qtables, qconds, qouts, qnone):
    if not 1 <= qtables <= MOST_PLACES:
        return False
    if not 0 <= qconds <= MOST_CONDS:
        return False
    if not 1 <= qouts <= MOST_OUTS:
        return False
    return qnone == 0


def places_right(ctables, qtables, qtable):
    for place in range(qtables):
        if not 0 <= qtable[place] < ctables:
            return False
    return True


def column_there(ctable, qtables, qtable, place, column):
    # The place is asked first: what stands behind the places may be no table.
    if not 0 <= place < qtables:
        return False
    return 0 <= column < cols_of(ctable, qtable[place])


def cond_right(ctable, qtables, qtable, qcond, cond):
    if not 0 <= op_of(qcond, cond) <= LAST_OP:
        return False
    if not column_there(ctable, qtables, qtable, a_of(qcond, cond), i_of(qcond, cond)):
        return False
    if b_of(qcond, cond) == NO_PLACE:
        return True
    return column_there(ctable, qtables, qtable, b_of(qcond, cond), j_of(qcond, cond))


def conds_right(ctable, qtables, qconds, qtable, qcond):
    for cond in range(qconds):
        if not cond_right(ctable, qtables, qtable, qcond, cond):
            return False
    return True


def outs_right(ctable, qtables, qouts, qtable, qout):
    for out in range(qouts):
        if not column_there(ctable, qtables, qtable, out_place_of(qout, out), out_column_of(qout, out)):
            return False
    return True


# The catalogue that it is asked of is as told.
def question_right(ctables, qtables, qconds, qouts, qnone, ctable, qtable, qcond, qout):
    # Each check leans on those before it: counts hold the walks in, places name the columns.
    if not counts_as_told(qtables, qconds, qouts, qnone):
        return False
    if not places_right(ctables, qtables, qtable):
        return False
    if not conds_right(ctable, qtables, qconds, qtable, qcond):
        return False
    return outs_right(ctable, qtables, qouts, qtable, qout)
