"""Makes catalogues, questions and plans, as the interface writes them out, for the tests."""

import itertools

SCAN = 255
GREATEST = 2 ** 63 - 1
LEAST_J = -(2 ** 31)
GREATEST_J = 2 ** 31 - 1

NUMBERS = ("ctables", "cnone", "qtables", "qconds", "qouts", "qnone")
LISTS = ("ctable", "qtable", "qcond", "qout")

# What stands where nothing is told: no part of it would do if it were looked at.
JUNK_TABLE = [GREATEST, GREATEST, GREATEST, GREATEST, 4, GREATEST, GREATEST, GREATEST, GREATEST]
JUNK_COND = [254, GREATEST, GREATEST, 254, LEAST_J]
JUNK_OUT = [GREATEST, GREATEST]


def table(cols=1, rows=100, indexed=0, none=0, alike=(7,)):
    """A table written out; alike of columns that aren't there holds junk."""
    return [cols, rows, indexed, none, 4] + list(alike) + [GREATEST] * (4 - len(alike))


def filled(parts, most, junk):
    row = []
    for part in list(parts) + [junk] * (most - len(parts)):
        row.extend(part)
    return row


def case(tables, places, conds=(), outs=((0, 0),)):
    """The arguments of a call by their names; what stands behind holds junk."""
    return {
        "ctables": len(tables),
        "cnone": 0,
        "qtables": len(places),
        "qconds": len(conds),
        "qouts": len(outs),
        "qnone": 0,
        "ctable": [8] + filled(tables, 8, JUNK_TABLE),
        "qtable": filled([[place] for place in places], 8, [GREATEST]),
        "qcond": filled(conds, 12, JUNK_COND),
        "qout": filled(outs, 8, JUNK_OUT),
    }


def small():
    """One table of one column, one place, no condition, one out."""
    return case([table()], [0])


def middle():
    """Three tables of differing widths, not named in their order, and two kinds of condition."""
    return case(
        [table(1), table(2, 50, 0b10, alike=(3, 50)), table(3, 9, 0b101, alike=(1, 2, 3))],
        [2, 0, 1],
        [(0, 2, 0, 2, 1), (2, 0, 4, 255, -5), (1, 0, 1, 0, 0)],
        [(0, 2), (2, 1)],
    )


def full():
    """As many as there may be of everything."""
    tables = [table(1 + k % 4, 4096, 2 ** (1 + k % 4) - 1, alike=(4096,) * (1 + k % 4)) for k in range(8)]
    places = [7, 4, 2, 5, 7]
    cols = [4, 1, 3, 2, 4]
    conds = []
    for k in range(12):
        a = k % 5
        b = (k + 2) % 5 if k % 3 else 255
        j = cols[b] - 1 if b < 255 else GREATEST_J
        conds.append((a, cols[a] - 1, k % 6, b, j))
    outs = [(k % 5, cols[k % 5] - 1) for k in range(8)]
    return case(tables, places, conds, outs)


def changed(told, name, value, at=None):
    """A copy of the case with one of its numbers set."""
    other = copied(told)
    if at is None:
        other[name] = value
    else:
        other[name][at] = value
    return other


def copied(told):
    return {name: list(told[name]) if name in LISTS else told[name] for name in NUMBERS + LISTS}


def arguments(told):
    return [told[name] for name in NUMBERS + LISTS]


def behind(numbers, junk=GREATEST):
    """The numbers of a plan's steps as a list of five; what stands behind holds junk."""
    return list(numbers) + [junk] * (5 - len(numbers))


def number_tie(place, column, number=5):
    """A condition that ties a column of a place to a number."""
    return (place, column, 0, 255, number)


def wrongs():
    """Copies of middle() with one number set, so that the catalogue isn't as told or the question isn't right of it.

    It has three tables of 1, 2 and 3 columns, and three places, of tables 2, 0 and 1.
    """
    for name, bad in (("ctables", [0, 1, 2, 9]), ("cnone", [1]), ("qtables", [0, 1, 2, 6]), ("qconds", [13]),
                      ("qouts", [0, 9]), ("qnone", [1])):
        for value in bad + [256, GREATEST]:
            yield changed(middle(), name, value)
    for number, cols in enumerate((1, 2, 3)):
        start = 1 + 9 * number
        # cols, rows, indexed, none, alike
        for at, bad in ((0, [0, 5]), (1, [4097]), (2, [2 ** cols, 2 ** cols + 1]), (3, [1])):
            for value in bad + [GREATEST]:
                yield changed(middle(), "ctable", value, start + at)
        for column, value in itertools.product(range(cols), [4097, GREATEST]):
            yield changed(middle(), "ctable", value, start + 5 + column)
    for place, value in itertools.product(range(3), [3, 255, GREATEST]):
        yield changed(middle(), "qtable", value, place)
    cols = [3, 1, 2]
    for number, (a, i, op, b, j) in enumerate(((0, 2, 0, 2, 1), (2, 0, 4, 255, -5), (1, 0, 1, 0, 0))):
        of_j = [] if b == 255 else [-1, cols[b], LEAST_J, GREATEST_J]
        for at, bad in enumerate(([3, 254, 255], [cols[a], GREATEST], [6, GREATEST], [3, 254], of_j)):
            for value in bad:
                yield changed(middle(), "qcond", value, 5 * number + at)
    for number, place in enumerate((0, 2)):
        for at, bad in enumerate(([3, 255, GREATEST], [cols[place], GREATEST])):
            for value in bad:
                yield changed(middle(), "qout", value, 2 * number + at)


class Drawn:
    """Numbers that look drawn by lot, the same ones each time."""

    def __init__(self, seed):
        self.state = seed

    def below(self, count):
        self.state = (self.state * 6364136223846793005 + 1442695040888963407) % 2 ** 64
        return (self.state >> 33) % count

    def one_of(self, values):
        return values[self.below(len(values))]


# Rows and alike: with small ones much costs alike, with larger ones lookups pay.
SMALL = (0, 0, 1, 1, 2, 3, 16, 17, 33)
LARGER = (0, 1, 2, 3, 7, 16, 40, 100, 333, 1000, 2000, 4095, 4096)


def drawn_table(drawn, values):
    cols = 1 + drawn.below(4)
    alike = [drawn.one_of((0, 1, 2, 3, 5, drawn.one_of(values))) for column in range(cols)]
    return table(cols, drawn.one_of(values), drawn.below(2 ** cols), 0, alike)


def drawn_case(seed, places, conds):
    """A question that is right, of so many places and conditions."""
    drawn = Drawn(seed)
    values = drawn.one_of((SMALL, LARGER))
    tables = [drawn_table(drawn, values) for number in range(1 + drawn.below(4))]
    of_places = [drawn.below(len(tables)) for place in range(places)]
    cols = [tables[number][0] for number in of_places]
    told = []
    for cond in range(conds):
        a = drawn.below(places)
        b = drawn.one_of([255] + list(range(places)))
        j = drawn.below(9) - 4 if b == 255 else drawn.below(cols[b])
        told.append((a, drawn.below(cols[a]), drawn.one_of((0, 0, 0, 0, 1, 2)), b, j))
    return case(tables, of_places, told)


class Locked(list):
    """A list that takes no change, not for a while either."""

    def refuse(self, *args, **kwargs):
        raise AssertionError("a list that was handed in is changed")

    __setitem__ = __delitem__ = __iadd__ = __imul__ = refuse
    append = clear = extend = insert = pop = remove = reverse = sort = refuse
