"""Makes catalogues, questions and plans, as the interface writes them out, for the tests."""

GREATEST = 2 ** 63 - 1
LEAST_J = -(2 ** 31)
GREATEST_J = 2 ** 31 - 1

NUMBERS = ("ctables", "cnone", "qtables", "qconds", "qouts", "qnone")
LISTS = ("ctable", "qtable", "qcond", "qout")

# What stands where nothing is told: no part of it would do if it were looked at.
JUNK_TABLE = [GREATEST, GREATEST, GREATEST, GREATEST, 4, GREATEST, GREATEST, GREATEST, GREATEST]
JUNK_COND = [254, GREATEST, GREATEST, 254, LEAST_J]
JUNK_OUT = [GREATEST, GREATEST]


def table(cols=1, rows=100, indexed=0, none=0, alike=(7,)):
    """A table written out; alike of columns that aren't there holds junk."""
    return [cols, rows, indexed, none, 4] + list(alike) + [GREATEST] * (4 - len(alike))


def filled(parts, most, junk):
    row = []
    for part in list(parts) + [junk] * (most - len(parts)):
        row.extend(part)
    return row


def case(tables, places, conds=(), outs=((0, 0),)):
    """The arguments of a call by their names; what stands behind holds junk."""
    return {
        "ctables": len(tables),
        "cnone": 0,
        "qtables": len(places),
        "qconds": len(conds),
        "qouts": len(outs),
        "qnone": 0,
        "ctable": [8] + filled(tables, 8, JUNK_TABLE),
        "qtable": filled([[place] for place in places], 8, [GREATEST]),
        "qcond": filled(conds, 12, JUNK_COND),
        "qout": filled(outs, 8, JUNK_OUT),
    }


def small():
    """One table of one column, one place, no condition, one out."""
    return case([table()], [0])


def middle():
    """Three tables of differing widths, not named in their order, and two kinds of condition."""
    return case(
        [table(1), table(2, 50, 0b10, alike=(3, 50)), table(3, 9, 0b101, alike=(1, 2, 3))],
        [2, 0, 1],
        [(0, 2, 0, 2, 1), (2, 0, 4, 255, -5), (1, 0, 1, 0, 0)],
        [(0, 2), (2, 1)],
    )


def full():
    """As many as there may be of everything."""
    tables = [table(1 + k % 4, 4096, 2 ** (1 + k % 4) - 1, alike=(4096,) * (1 + k % 4)) for k in range(8)]
    places = [7, 4, 2, 5, 7]
    cols = [4, 1, 3, 2, 4]
    conds = []
    for k in range(12):
        a = k % 5
        b = (k + 2) % 5 if k % 3 else 255
        j = cols[b] - 1 if b < 255 else GREATEST_J
        conds.append((a, cols[a] - 1, k % 6, b, j))
    outs = [(k % 5, cols[k % 5] - 1) for k in range(8)]
    return case(tables, places, conds, outs)


def changed(told, name, value, at=None):
    """A copy of the case with one of its numbers set."""
    other = copied(told)
    if at is None:
        other[name] = value
    else:
        other[name][at] = value
    return other


def copied(told):
    return {name: list(told[name]) if name in LISTS else told[name] for name in NUMBERS + LISTS}


def arguments(told):
    return [told[name] for name in NUMBERS + LISTS]


def behind(numbers, junk=GREATEST):
    """The numbers of a plan's steps as a list of five; what stands behind holds junk."""
    return list(numbers) + [junk] * (5 - len(numbers))


class Locked(list):
    """A list that takes no change, not for a while either."""

    def refuse(self, *args, **kwargs):
        raise AssertionError("a list that was handed in is changed")

    __setitem__ = __delitem__ = __iadd__ = __imul__ = refuse
    append = clear = extend = insert = pop = remove = reverse = sort = refuse
