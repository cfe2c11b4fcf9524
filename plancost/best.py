"""The best plan: of all plans of a question that cost least, the first."""

from plancost.cost import plan_cost, rows_coming, step_pages
from plancost.plan import SCANNED, lookup_right


def longer_orders(qtables, orders):
    longer = []
    for order in orders:
        for place in range(qtables):
            if place not in order:
                longer.append(order + [place])
    return longer


# Number by number, so that the first of several that cost alike is met first.
def every_order(qtables):
    orders = [[]]
    for step in range(qtables):
        orders = longer_orders(qtables, orders)
    return orders


# Rising: a scan comes last, as SCANNED is larger than every condition's number.
def every_way(qconds, ctable, qtable, qcond, place, earlier):
    ways = [cond for cond in range(qconds) if lookup_right(qconds, ctable, qtable, qcond, cond, place, earlier)]
    ways.append(SCANNED)
    return ways


# The rows that come are weighed in: where none comes all ways cost alike, whatever pages one reads.
def best_way(qconds, ctable, qtable, qcond, place, earlier, coming):
    ways = every_way(qconds, ctable, qtable, qcond, place, earlier)
    best = ways[0]
    least = coming * step_pages(ctable, qtable, qcond, place, earlier, best)
    for way in ways[1:]:
        cost = coming * step_pages(ctable, qtable, qcond, place, earlier, way)
        if cost < least:
            best = way
            least = cost
    return best


# Step by step: how many rows come to a step hangs on the order alone, not on the ways before it.
def best_by(qtables, qconds, ctable, qtable, qcond, order):
    coming = rows_coming(qtables, qconds, ctable, qtable, qcond, order)
    by = []
    for step in range(qtables):
        by.append(best_way(qconds, ctable, qtable, qcond, order[step], order[:step], coming[step]))
    return by


def least_cost(qtables, qconds, ctable, qtable, qcond, order):
    by = best_by(qtables, qconds, ctable, qtable, qcond, order)
    return plan_cost(qtables, qconds, ctable, qtable, qcond, order, by)


# The question is right.
def best_order(qtables, qconds, ctable, qtable, qcond):
    orders = every_order(qtables)
    best = orders[0]
    least = least_cost(qtables, qconds, ctable, qtable, qcond, best)
    for order in orders[1:]:
        cost = least_cost(qtables, qconds, ctable, qtable, qcond, order)
        if cost < least:
            best = order
            least = cost
    return best
