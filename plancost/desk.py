"""The calls, as the document's interface names them."""

from plancost.best import best_by, best_order
from plancost.catalogue import catalogue_as_told
from plancost.cost import plan_cost
from plancost.plan import plan_right
from plancost.question import MOST_PLACES, question_right

NUMBER_ALONE = 0
NUMBER_AND_PLAN = 1
NOT_RIGHT = -22
NO_PLAN = -2

# Stands in order and by behind the question's places.
BEHIND = 255


def all_right(ctables, cnone, qtables, qconds, qouts, qnone, ctable, qtable, qcond, qout):
    # The catalogue is asked first: a question is only right of one that is as told.
    if not catalogue_as_told(ctables, cnone, ctable):
        return False
    return question_right(ctables, qtables, qconds, qouts, qnone, ctable, qtable, qcond, qout)


def db_right(ctables, cnone, qtables, qconds, qouts, qnone, ctable, qtable, qcond, qout):
    if not all_right(ctables, cnone, qtables, qconds, qouts, qnone, ctable, qtable, qcond, qout):
        return [NUMBER_ALONE, NOT_RIGHT]
    return [NUMBER_ALONE, 0]


def db_cost(ctables, cnone, qtables, qconds, qouts, qnone, ctable, qtable, qcond, qout, order, by):
    if not all_right(ctables, cnone, qtables, qconds, qouts, qnone, ctable, qtable, qcond, qout):
        return [NUMBER_ALONE, NOT_RIGHT]
    if not plan_right(qtables, qconds, ctable, qtable, qcond, order, by):
        return [NUMBER_ALONE, NO_PLAN]
    return [NUMBER_ALONE, plan_cost(qtables, qconds, ctable, qtable, qcond, order, by)]


def row_told(numbers):
    return [MOST_PLACES] + numbers + [BEHIND] * (MOST_PLACES - len(numbers))


def db_best(ctables, cnone, qtables, qconds, qouts, qnone, ctable, qtable, qcond, qout):
    if not all_right(ctables, cnone, qtables, qconds, qouts, qnone, ctable, qtable, qcond, qout):
        return [NUMBER_ALONE, NOT_RIGHT]
    order = best_order(qtables, qconds, ctable, qtable, qcond)
    by = best_by(qtables, qconds, ctable, qtable, qcond, order)
    cost = plan_cost(qtables, qconds, ctable, qtable, qcond, order, by)
    return [NUMBER_AND_PLAN, cost] + row_told(order) + row_told(by)
