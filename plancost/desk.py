"""The calls, as the document's interface names them."""

from plancost.catalogue import catalogue_as_told
from plancost.question import question_right

NUMBER_ALONE = 0
NOT_RIGHT = -22


def db_right(ctables, cnone, qtables, qconds, qouts, qnone, ctable, qtable, qcond, qout):
    if not catalogue_as_told(ctables, cnone, ctable):
        return [NUMBER_ALONE, NOT_RIGHT]
    if not question_right(ctables, qtables, qconds, qouts, qnone, ctable, qtable, qcond, qout):
        return [NUMBER_ALONE, NOT_RIGHT]
    return [NUMBER_ALONE, 0]
