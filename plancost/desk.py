"""The calls, as the document's interface names them."""

from plancost.catalogue import catalogue_as_told
from plancost.cost import plan_cost
from plancost.plan import plan_right
from plancost.question import question_right

NUMBER_ALONE = 0
NOT_RIGHT = -22
NO_PLAN = -2


def all_right(ctables, cnone, qtables, qconds, qouts, qnone, ctable, qtable, qcond, qout):
    # The catalogue is asked first: a question is only right of one that is as told.
    if not catalogue_as_told(ctables, cnone, ctable):
        return False
    return question_right(ctables, qtables, qconds, qouts, qnone, ctable, qtable, qcond, qout)


def db_right(ctables, cnone, qtables, qconds, qouts, qnone, ctable, qtable, qcond, qout):
    if not all_right(ctables, cnone, qtables, qconds, qouts, qnone, ctable, qtable, qcond, qout):
        return [NUMBER_ALONE, NOT_RIGHT]
    return [NUMBER_ALONE, 0]


def db_cost(ctables, cnone, qtables, qconds, qouts, qnone, ctable, qtable, qcond, qout, order, by):
    if not all_right(ctables, cnone, qtables, qconds, qouts, qnone, ctable, qtable, qcond, qout):
        return [NUMBER_ALONE, NOT_RIGHT]
    if not plan_right(qtables, qconds, ctable, qtable, qcond, order, by):
        return [NUMBER_ALONE, NO_PLAN]
    return [NUMBER_ALONE, plan_cost(qtables, qconds, ctable, qtable, qcond, order, by)]
