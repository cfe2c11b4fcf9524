"""Promise 2: db_cost answers -22, -2, or what the plan costs.

What a plan costs is reckoned by hand here, step by step, in the words of the document:
S is rows / 16 rounded up; L is the binary digits of rows / 32 rounded up, and alike / 32
rounded up, and alike, and 2.
"""

import copy
import inspect
import itertools
import unittest

from plancost.desk import db_cost, db_right
from tests.making import (
    GREATEST,
    GREATEST_J,
    LEAST_J,
    LISTS,
    NUMBERS,
    SCAN,
    Locked,
    arguments,
    behind,
    case,
    changed,
    full,
    middle,
    number_tie,
    small,
    table,
    wrongs,
)

LARGE = [255, 256, 257, 2 ** 31, 2 ** 32, 2 ** 32 + 1, 2 ** 62, GREATEST - 1, GREATEST]


def answered(told, order, by):
    return db_cost(*arguments(told), behind(order), behind(by))


class CostCase(unittest.TestCase):
    def costs(self, told, order, by, cost, what=None):
        with self.subTest(order=order, by=by, what=what):
            self.assertEqual(answered(told, order, by), [0, cost])

    def is_plan(self, told, order, by, what=None):
        with self.subTest(order=order, by=by, what=what):
            form, cost = answered(told, order, by)
            self.assertEqual(form, 0)
            self.assertGreaterEqual(cost, 0)

    def no_plan(self, told, order, by, what=None):
        with self.subTest(order=order, by=by, what=what):
            self.assertEqual(answered(told, order, by), [0, -2])

    def not_right(self, told, order, by, what=None):
        with self.subTest(order=order, by=by, what=what):
            self.assertEqual(answered(told, order, by), [0, -22])


class Refusals(CostCase):
    """The catalogue and the question of middle() have three tables, three places, three conditions."""

    plan = ([0, 1, 2], [SCAN, SCAN, SCAN])
    no_plans = [
        ([0, 0, 0], [SCAN] * 3),
        ([3, 1, 2], [SCAN] * 3),
        ([GREATEST] * 3, [GREATEST] * 3),
        ([0, 1, 2], [0, SCAN, SCAN]),
        ([0, 1, 2], [SCAN, SCAN, GREATEST]),
    ]

    def test_the_plans_are_as_the_tests_below_take_them(self):
        self.is_plan(middle(), *self.plan)
        for order, by in self.no_plans:
            self.no_plan(middle(), order, by)

    def test_not_right_with_a_plan(self):
        for told in wrongs():
            self.assertEqual(db_right(*arguments(told)), [0, -22])
            self.not_right(told, *self.plan, told)

    def test_not_right_comes_before_no_plan(self):
        for told in wrongs():
            for order, by in self.no_plans:
                self.not_right(told, order, by, told)

    def test_every_number_the_greatest(self):
        told = full()
        for name in NUMBERS:
            told[name] = GREATEST
        for name in LISTS:
            told[name] = [GREATEST_J if name == "qcond" else GREATEST] * len(told[name])
        self.not_right(told, [GREATEST] * 5, [GREATEST] * 5)

    def test_every_number_naught(self):
        told = full()
        for name in NUMBERS:
            told[name] = 0
        for name in LISTS:
            told[name] = [0] * len(told[name])
        self.not_right(told, [0] * 5, [0] * 5)


class Order(CostCase):
    def test_the_places_each_once(self):
        for places in range(1, 6):
            told = case([table()], [0] * places)
            for order in itertools.product(range(places + 1), repeat=places):
                if len(set(order)) == places and max(order) < places:
                    self.is_plan(told, order, [SCAN] * places)
                else:
                    self.no_plan(told, order, [SCAN] * places)

    def test_a_place_that_is_not_there(self):
        for places in range(1, 6):
            told = case([table()], [0] * places)
            for step in range(places):
                for place in list(range(places, 9)) + LARGE:
                    order = list(range(places))
                    order[step] = place
                    self.no_plan(told, order, [SCAN] * places)

    def test_a_place_that_is_not_there_though_a_table_stands_there(self):
        told = case([table()], [0, 0])
        told["qtable"] = [0] * 8
        self.no_plan(told, [0, 2], [SCAN, SCAN])
        self.no_plan(told, [2, 0], [SCAN, SCAN])

    def test_a_place_twice_far_apart(self):
        told = case([table()], [0] * 5)
        self.no_plan(told, [4, 1, 2, 3, 4], [SCAN] * 5)
        self.no_plan(told, [0, 1, 2, 3, 0], [SCAN] * 5)
        self.no_plan(told, [0, 4, 2, 4, 1], [SCAN] * 5)

    def test_an_order_is_of_places_and_not_of_tables(self):
        told = case([table(), table(), table()], [2, 2])
        self.is_plan(told, [1, 0], [SCAN, SCAN])
        self.no_plan(told, [2, 2], [SCAN, SCAN])
        self.no_plan(told, [2, 0], [SCAN, SCAN])


class By(CostCase):
    def test_a_condition_s_number(self):
        told = case([table(1, 100, 1)], [0], [number_tie(0, 0)] * 12)
        for conds in range(13):
            other = changed(told, "qconds", conds)
            for cond in range(conds):
                self.is_plan(other, [0], [cond], conds)
            for cond in list(range(conds, 16)) + [127, 128, 253, 254] + LARGE[1:]:
                self.no_plan(other, [0], [cond], conds)
            self.is_plan(other, [0], [SCAN], conds)

    def test_each_step_is_asked(self):
        told = case([table(1, 100, 1)], [0] * 5, [number_tie(place, 0) for place in range(5)])
        order = [3, 1, 4, 0, 2]
        self.is_plan(told, order, order)
        for step in range(5):
            for cond in [place for place in range(5) if place != order[step]] + [5, 254, 256, GREATEST]:
                by = list(order)
                by[step] = cond
                self.no_plan(told, order, by)
            by = list(order)
            by[step] = SCAN
            self.is_plan(told, order, by)

    def test_op(self):
        for op in range(6):
            number = case([table(1, 100, 1)], [0], [(0, 0, op, 255, 5)])
            from_a = case([table(1, 100, 1)], [0, 0], [(1, 0, op, 0, 0)])
            from_b = case([table(1, 100, 1)], [0, 0], [(0, 0, op, 1, 0)])
            for told, order, by in ((number, [0], [0]), (from_a, [0, 1], [SCAN, 0]), (from_b, [0, 1], [SCAN, 0])):
                if op == 0:
                    self.is_plan(told, order, by, op)
                else:
                    self.no_plan(told, order, by, op)

    def test_indexed(self):
        for indexed, column in itertools.product(range(16), range(4)):
            wide = table(4, 100, indexed, alike=(1, 2, 3, 4))
            # The other side's column is indexed just where this side's isn't.
            other = table(4, 100, 15 - indexed, alike=(1, 2, 3, 4))
            number = case([other, wide], [1], [number_tie(0, column)])
            from_a = case([other, wide], [0, 1], [(1, column, 0, 0, column)])
            from_b = case([other, wide], [0, 1], [(0, column, 0, 1, column)])
            for told, order, by in ((number, [0], [0]), (from_a, [0, 1], [SCAN, 0]), (from_b, [0, 1], [SCAN, 0])):
                if indexed & 2 ** column:
                    self.is_plan(told, order, by, (indexed, column))
                else:
                    self.no_plan(told, order, by, (indexed, column))

    def test_the_column_of_the_step_s_own_side(self):
        # Of place 0 column 1 is indexed, of place 1 column 0.
        tables = [table(2, 100, 0b10, alike=(1, 2)), table(2, 100, 0b01, alike=(3, 4))]
        told = case(tables, [0, 1], [(0, 1, 0, 1, 1), (0, 0, 0, 1, 0), (1, 1, 0, 0, 1), (1, 0, 0, 0, 0)])
        for cond in (0, 2):
            self.is_plan(told, [1, 0], [SCAN, cond])
            self.no_plan(told, [0, 1], [SCAN, cond])
        for cond in (1, 3):
            self.is_plan(told, [0, 1], [SCAN, cond])
            self.no_plan(told, [1, 0], [SCAN, cond])

    def test_a_place_tied_only_to_a_later_one(self):
        for cond in ((0, 0, 0, 1, 0), (1, 0, 0, 0, 0)):
            told = case([table(1, 100, 1)], [0, 0], [cond])
            for order in ([0, 1], [1, 0]):
                self.is_plan(told, order, [SCAN, 0], cond)
                self.no_plan(told, order, [0, SCAN], cond)
                self.no_plan(told, order, [0, 0], cond)

    def test_a_place_tied_to_itself(self):
        wide = table(2, 100, 0b11, alike=(1, 2))
        for cond in ((1, 0, 0, 1, 1), (1, 1, 0, 1, 1), (1, 1, 0, 1, 0)):
            told = case([wide], [0, 0], [cond])
            for order in ([0, 1], [1, 0]):
                for by in ([0, SCAN], [SCAN, 0], [0, 0]):
                    self.no_plan(told, order, by, cond)
            told = case([wide], [0], [(0,) + cond[1:3] + (0,) + cond[4:]])
            self.no_plan(told, [0], [0], cond)

    def test_a_condition_of_other_places(self):
        told = case([table(1, 100, 1)], [0] * 3, [(0, 0, 0, 1, 0), number_tie(1, 0)])
        for order in itertools.permutations(range(3)):
            step = order.index(2)
            for cond in (0, 1):
                by = [SCAN] * 3
                by[step] = cond
                self.no_plan(told, order, by)

    def test_a_number_is_no_tie_to_the_place_of_that_number(self):
        # j is 0 and 1, like places and columns, but b says it's a number.
        told = case([table(1, 100, 1)], [0, 0], [number_tie(0, 0, 1), number_tie(1, 0, 0)])
        self.is_plan(told, [0, 1], [0, 1])
        self.is_plan(told, [1, 0], [1, 0])
        self.no_plan(told, [0, 1], [SCAN, 0])
        self.no_plan(told, [0, 1], [1, SCAN])

    def test_every_number_may_tie(self):
        for number in (LEAST_J, -256, -1, 0, 1, 4, 255, 256, GREATEST_J):
            told = case([table(1, 100, 1)], [0], [number_tie(0, 0, number)])
            self.is_plan(told, [0], [0], number)

    def test_an_earlier_step_need_not_be_the_one_before(self):
        told = case([table(1, 100, 1)], [0] * 5, [(3, 0, 0, 2, 0)])
        self.is_plan(told, [3, 0, 1, 4, 2], [SCAN, SCAN, SCAN, SCAN, 0])
        self.is_plan(told, [2, 0, 1, 4, 3], [SCAN, SCAN, SCAN, SCAN, 0])
        self.is_plan(told, [0, 2, 3, 4, 1], [SCAN, SCAN, 0, SCAN, SCAN])
        self.no_plan(told, [0, 2, 3, 4, 1], [SCAN, 0, SCAN, SCAN, SCAN])

    def test_the_first_step_is_looked_up_by_a_number_alone(self):
        told = case([table(1, 100, 1)], [0, 0], [(0, 0, 0, 1, 0), (1, 0, 0, 0, 0), number_tie(0, 0)])
        for cond in range(2):
            self.no_plan(told, [0, 1], [cond, SCAN])
            self.no_plan(told, [1, 0], [cond, SCAN])
        self.is_plan(told, [0, 1], [2, SCAN])
        self.no_plan(told, [1, 0], [2, SCAN])


class EveryPlan(CostCase):
    """A question with a condition of each kind, and by hand which of them serve where."""

    tables = [table(2, 100, 0b01, alike=(3, 4)), table(2, 90, 0b10, alike=(5, 6))]
    conds = [
        (0, 0, 0, 255, 5),
        (0, 1, 0, 255, 5),
        (1, 1, 0, 0, 0),
        (0, 1, 0, 1, 1),
        (2, 0, 2, 255, 5),
        (2, 0, 0, 2, 1),
        (2, 0, 0, 1, 0),
        (1, 0, 0, 2, 0),
        (1, 1, 3, 0, 0),
    ]
    # Of each place: which conditions serve at once, and which behind which place.
    at_once = {0: [0], 1: [], 2: []}
    serving = {0: {1: [2], 2: []}, 1: {0: [2, 3], 2: []}, 2: {0: [], 1: [6, 7]}}

    def ways(self, order, step):
        place = order[step]
        found = [SCAN] + self.at_once[place]
        for earlier in order[:step]:
            found = found + self.serving[place][earlier]
        return found

    def test_every_order_and_every_by(self):
        told = case(self.tables, [0, 1, 0], self.conds)
        values = list(range(len(self.conds) + 1)) + [254, SCAN, 256]
        for order in itertools.permutations(range(3)):
            ways = [self.ways(order, step) for step in range(3)]
            for by in itertools.product(values, repeat=3):
                if all(by[step] in ways[step] for step in range(3)):
                    self.is_plan(told, order, by)
                else:
                    self.no_plan(told, order, by)


class Behind(CostCase):
    def test_what_stands_behind_the_steps_is_not_looked_at(self):
        for places in range(1, 5):
            told = case([table(1, 100, 1)], [0] * places, [number_tie(place, 0) for place in range(places)])
            first = answered(told, list(range(places)), list(range(places)))
            self.assertGreater(first[1], 0)
            for junk in [0, 1, 2, 3, 4, 5, 12] + LARGE:
                order = behind(range(places), junk)
                by = behind(range(places), junk)
                with self.subTest(places=places, junk=junk):
                    self.assertEqual(db_cost(*arguments(told), order, by), first)
                    self.assertEqual(db_cost(*arguments(told), order, behind(range(places))), first)
                    self.assertEqual(db_cost(*arguments(told), behind(range(places)), by), first)

    def test_what_stands_behind_makes_no_plan(self):
        told = case([table()], [0, 0])
        self.no_plan(told, [0, 0, 1, 0, 1], [SCAN] * 5)
        self.no_plan(told, [2, 3, 0, 1, 0], [SCAN] * 5)
        self.no_plan(told, [0, 1, 0, 1, 0], [SCAN, 0, SCAN, SCAN, SCAN])

    def test_conditions_behind_the_count_tie_nothing(self):
        told = case([table(1, 160, 1)], [0, 0], [number_tie(0, 0), number_tie(1, 0)])
        # 10 + 7 * 10, then 10 + 160 * 10.
        self.costs(told, [0, 1], [SCAN, SCAN], 80)
        self.costs(changed(told, "qconds", 0), [0, 1], [SCAN, SCAN], 1610)
        self.costs(changed(told, "qconds", 1), [1, 0], [SCAN, SCAN], 1610)


class Pages(CostCase):
    scans = {
        0: 0, 1: 1, 2: 1, 15: 1, 16: 1, 17: 2, 31: 2, 32: 2, 33: 3, 48: 3, 49: 4, 255: 16, 256: 16, 257: 17,
        4079: 255, 4080: 255, 4081: 256, 4095: 256, 4096: 256,
    }
    # The binary digits of rows / 32, rounded up.
    digits = {
        0: 0, 1: 1, 15: 1, 16: 1, 17: 1, 31: 1, 32: 1, 33: 2, 64: 2, 65: 2, 96: 2, 97: 3, 128: 3, 224: 3, 225: 4,
        480: 4, 481: 5, 992: 5, 993: 6, 2016: 6, 2017: 7, 4064: 7, 4065: 8, 4095: 8, 4096: 8,
    }
    # alike / 32, rounded up, and alike.
    found = {
        0: 0, 1: 2, 2: 3, 31: 32, 32: 33, 33: 35, 64: 66, 65: 68, 96: 99, 97: 101, 4064: 4191, 4065: 4193,
        4095: 4223, 4096: 4224,
    }

    def test_a_scan(self):
        for rows, pages in self.scans.items():
            for alike in (0, 1, 33, 4096):
                told = case([table(1, rows, 1, alike=(alike,))], [0], [number_tie(0, 0)])
                self.costs(told, [0], [SCAN], pages, (rows, alike))
                self.costs(changed(told, "qconds", 0), [0], [SCAN], pages, (rows, alike))

    def test_a_lookup(self):
        for rows, alike in itertools.product(self.digits, self.found):
            told = case([table(1, rows, 1, alike=(alike,))], [0], [number_tie(0, 0)])
            self.costs(told, [0], [0], self.digits[rows] + self.found[alike] + 2, (rows, alike))

    def test_lookups_written_out(self):
        for rows, alike, pages in (
            (0, 0, 2), (0, 1, 4), (0, 4096, 4226),
            (1, 0, 3), (1, 1, 5), (1, 32, 36), (1, 33, 38),
            (15, 1, 5), (16, 1, 5), (17, 1, 5), (32, 1, 5), (33, 1, 6),
            (32, 32, 36), (33, 32, 37), (32, 33, 38), (33, 33, 39),
            (4096, 0, 10), (4096, 1, 12), (4096, 32, 43), (4096, 33, 45), (4096, 4096, 4234),
        ):
            told = case([table(1, rows, 1, alike=(alike,))], [0], [number_tie(0, 0)])
            self.costs(told, [0], [0], pages, (rows, alike))

    def test_a_lookup_from_both_sides(self):
        # The first step: S of 1 row is 1, and 1 row comes to the second.
        for rows, alike in itertools.product((0, 1, 32, 33, 4096), (0, 1, 32, 33, 4096)):
            tables = [table(1, 1, 0, alike=(1,)), table(1, rows, 1, alike=(alike,))]
            pages = 1 + self.digits[rows] + self.found[alike] + 2
            self.costs(case(tables, [0, 1], [(1, 0, 0, 0, 0)]), [0, 1], [SCAN, 0], pages, (rows, alike))
            self.costs(case(tables, [0, 1], [(0, 0, 0, 1, 0)]), [0, 1], [SCAN, 0], pages, (rows, alike))
            self.costs(case(tables, [1, 0], [(0, 0, 0, 1, 0)]), [1, 0], [SCAN, 0], pages, (rows, alike))
            self.costs(case(tables, [1, 0], [(1, 0, 0, 0, 0)]), [1, 0], [SCAN, 0], pages, (rows, alike))

    def test_the_column_that_is_looked_up(self):
        # Digits of 4 are 3; alike 1, 32, 33, 64 by column: 2, 33, 35, 66; and 2.
        wide = table(4, 100, 0b1111, alike=(1, 32, 33, 64))
        told = case([wide], [0], [number_tie(0, column) for column in range(4)])
        for column, pages in enumerate((7, 38, 40, 71)):
            self.costs(told, [0], [column], pages)

    def test_the_column_of_the_step_s_own_side(self):
        # Scans: 3 and 1. Lookups of place 0: 2 + 2 + 2, 2 + 3 + 2; of place 1: 1 + 4 + 2, 1 + 5 + 2.
        tables = [table(2, 48, 0b11, alike=(1, 2)), table(2, 10, 0b11, alike=(3, 4))]
        for cond, behind_0, behind_1 in (
            ((0, 0, 0, 1, 1), 3 + 48 * 8, 1 + 10 * 6),
            ((1, 1, 0, 0, 0), 3 + 48 * 8, 1 + 10 * 6),
            ((0, 1, 0, 1, 0), 3 + 48 * 7, 1 + 10 * 7),
            ((1, 0, 0, 0, 1), 3 + 48 * 7, 1 + 10 * 7),
        ):
            told = case(tables, [0, 1], [cond])
            self.costs(told, [0, 1], [SCAN, 0], behind_0, cond)
            self.costs(told, [1, 0], [SCAN, 0], behind_1, cond)


class RowsThatCome(CostCase):
    """Place 0 has 100 rows, S 7; a last place of 16 rows, S 1, shows how many rows come to it."""

    last = table(1, 16, 0, alike=(16,))

    def told(self, conds, indexed=0, alike=(40, 30, 20, 10), rows=100):
        return case([table(4, rows, indexed, alike=alike), self.last], [0, 1], conds)

    def test_one_comes_to_the_first_step(self):
        self.costs(case([table()], [0]), [0], [SCAN], 7)

    def test_without_a_tie_as_many_as_there_are_rows(self):
        self.costs(self.told([]), [0, 1], [SCAN, SCAN], 7 + 100)
        self.costs(self.told([]), [1, 0], [SCAN, SCAN], 1 + 16 * 7)

    def test_rows_at_the_edges(self):
        for rows, pages in ((0, 0), (1, 1), (15, 1), (16, 1), (17, 2), (32, 2), (33, 3), (4096, 256)):
            self.costs(self.told([], rows=rows), [0, 1], [SCAN, SCAN], pages + rows, rows)

    def test_a_tie_to_a_number_indexed_or_not(self):
        for column, alike in enumerate((40, 30, 20, 10)):
            for indexed in (0, 15, 2 ** column, 15 - 2 ** column):
                told = self.told([number_tie(0, column)], indexed)
                self.costs(told, [0, 1], [SCAN, SCAN], 7 + alike, (column, indexed))
                # The last step's rows have no bearing: it's the last.
                self.costs(told, [1, 0], [SCAN, SCAN], 1 + 16 * 7, (column, indexed))

    def test_alike_at_the_edges(self):
        for alike in (0, 1, 32, 33, 99, 100):
            told = self.told([number_tie(0, 0)], alike=(alike, 0, 0, 0))
            self.costs(told, [0, 1], [SCAN, SCAN], 7 + alike, alike)
        for alike in (101, 128, 4095, 4096):
            told = self.told([number_tie(0, 0)], alike=(alike, 0, 0, 0))
            self.costs(told, [0, 1], [SCAN, SCAN], 7 + 100, alike)
        told = self.told([number_tie(0, 0)], alike=(4096, 0, 0, 0), rows=4096)
        self.costs(told, [0, 1], [SCAN, SCAN], 256 + 4096)
        told = self.told([number_tie(0, 0)], alike=(4095, 0, 0, 0), rows=4096)
        self.costs(told, [0, 1], [SCAN, SCAN], 256 + 4095)

    def test_several_ties_of_one_place(self):
        ties = [number_tie(0, column) for column in range(4)]
        for count in range(1, 5):
            for chosen in itertools.permutations(range(4), count):
                least = (40, 30, 20, 10)[max(chosen)]
                self.costs(self.told([ties[k] for k in chosen]), [0, 1], [SCAN, SCAN], 7 + least, chosen)

    def test_a_lookup_goes_by_its_own_column_and_the_rows_by_the_least(self):
        # L of column 0: 3 + 2 + 40 + 2; of column 2: 3 + 1 + 20 + 2.
        told = self.told([number_tie(0, 0), number_tie(0, 2), number_tie(0, 3)], 0b0111)
        self.costs(told, [0, 1], [0, SCAN], 47 + 10)
        self.costs(told, [0, 1], [1, SCAN], 26 + 10)
        self.costs(told, [0, 1], [SCAN, SCAN], 7 + 10)
        self.no_plan(told, [0, 1], [2, SCAN])

    def test_only_op_0_ties(self):
        for op in range(1, 6):
            self.costs(self.told([(0, 0, op, 255, 5)]), [0, 1], [SCAN, SCAN], 7 + 100, op)
            tables = [table(1, 10, alike=(1,)), table(1, 20, alike=(1,)), self.last]
            for cond in ((0, 0, op, 1, 0), (1, 0, op, 0, 0)):
                self.costs(case(tables, [0, 1, 2], [cond]), [0, 1, 2], [SCAN] * 3, 1 + 10 * 2 + 200, (op, cond))

    def test_a_tie_to_an_earlier_place_from_both_sides(self):
        # Scans: 1, 2, 1. Place 0 has 10 rows, alike 2; place 1 has 20 rows, alike 3.
        tables = [table(1, 10, alike=(2,)), table(1, 20, alike=(3,)), self.last]
        for cond in ((0, 0, 0, 1, 0), (1, 0, 0, 0, 0)):
            told = case(tables, [0, 1, 2], [cond])
            self.costs(told, [0, 1, 2], [SCAN] * 3, 1 + 10 * 2 + 30, cond)
            self.costs(told, [1, 0, 2], [SCAN] * 3, 2 + 20 * 1 + 40, cond)
            # The last place stands between: it has 16 rows, and no tie.
            self.costs(told, [0, 2, 1], [SCAN] * 3, 1 + 10 * 1 + 160 * 2, cond)

    def test_an_earlier_step_need_not_be_the_one_before(self):
        tables = [table(1, 10, alike=(2,)), table(1, 20, alike=(3,)), self.last]
        for cond in ((0, 0, 0, 1, 0), (1, 0, 0, 0, 0)):
            told = case(tables, [0, 1, 2, 2], [cond])
            # 1 comes, 10, 160, then 160 * 3.
            self.costs(told, [0, 2, 1, 3], [SCAN] * 4, 1 + 10 + 160 * 2 + 480, cond)

    def test_ties_to_several_earlier_places_and_to_a_number(self):
        # Of place 2 column 0 is tied to place 0, column 1 to place 1, column 2 to a number.
        tables = [table(1, 3, alike=(1,)), table(1, 5, alike=(1,)), table(3, 40, 0, alike=(9, 8, 10)), self.last]
        conds = [(2, 0, 0, 0, 0), (1, 0, 0, 2, 1), number_tie(2, 2)]
        told = case(tables, [0, 1, 2, 3], conds)
        # Scans: 1, 1, 3, 1.
        self.costs(told, [0, 1, 2, 3], [SCAN] * 4, 1 + 3 + 15 * 3 + 15 * 8)
        # Place 1 comes later: column 0 and the number alone; then place 1 by its alike, 1.
        self.costs(told, [0, 2, 1, 3], [SCAN] * 4, 1 + 3 * 3 + 3 * 9 + 27 * 1)
        # Place 0 comes later: column 1 and the number alone; then place 0 by its alike, 1.
        self.costs(told, [1, 2, 0, 3], [SCAN] * 4, 1 + 5 * 3 + 5 * 8 + 40 * 1)
        # Both come later: the number alone; then each by its alike, 1.
        self.costs(told, [2, 0, 1, 3], [SCAN] * 4, 3 + 10 + 10 + 10)

    def test_lookups_one_behind_another(self):
        # Place 0 by a number: L is 3 + 1 + 4 + 2. Place 1 by place 0: 2 + 1 + 5 + 2. Place 2 by place 1: 8 + 2 + 33 + 2.
        tables = [
            table(1, 100, 1, alike=(4,)), table(2, 50, 0b10, alike=(7, 5)), table(1, 4096, 1, alike=(33,)), self.last,
        ]
        conds = [(2, 0, 0, 1, 0), (0, 0, 0, 1, 1), number_tie(0, 0)]
        told = case(tables, [0, 1, 2, 3], conds)
        self.costs(told, [0, 1, 2, 3], [2, 1, 0, SCAN], 10 + 4 * 10 + 20 * 45 + 660)
        self.costs(told, [0, 1, 2, 3], [SCAN] * 4, 7 + 4 * 4 + 20 * 256 + 660)
        self.costs(told, [0, 1, 2, 3], [SCAN, 1, SCAN, SCAN], 7 + 4 * 10 + 20 * 256 + 660)
        # Place 2 first, 4096 rows; place 1 by column 0, alike 7, not indexed; place 0 by a number and place 1, alike 4.
        self.costs(told, [2, 1, 0, 3], [SCAN, SCAN, 1, SCAN], 256 + 4096 * 4 + 28672 * 10 + 114688)
        self.costs(told, [2, 1, 0, 3], [SCAN, SCAN, 2, SCAN], 256 + 4096 * 4 + 28672 * 10 + 114688)

    def test_outs_have_no_bearing(self):
        told = self.told([number_tie(0, 0)])
        for outs in range(1, 9):
            other = changed(told, "qouts", outs)
            other["qout"] = [1, 0, 0, 3] * 4
            self.costs(other, [0, 1], [SCAN, SCAN], 7 + 40, outs)


class Corners(CostCase):
    def test_no_rows(self):
        none = table(1, 0, 1, alike=(0,))
        many = table(1, 4096, 1, alike=(4096,))
        self.costs(case([none], [0]), [0], [SCAN], 0)
        self.costs(case([none], [0], [number_tie(0, 0)]), [0], [0], 2)
        told = case([none, many], [0, 1], [number_tie(0, 0), (0, 0, 0, 1, 0)])
        self.costs(told, [0, 1], [SCAN, SCAN], 0)
        self.costs(told, [0, 1], [SCAN, 1], 0)
        self.costs(told, [0, 1], [0, SCAN], 2)
        self.costs(told, [0, 1], [0, 1], 2)
        self.costs(told, [1, 0], [SCAN, SCAN], 256)
        self.costs(told, [1, 0], [SCAN, 0], 256 + 4096 * 2)
        self.costs(told, [1, 0], [SCAN, 1], 256 + 4096 * 2)

    def test_no_rows_but_some_alike(self):
        told = case([table(1, 0, 1, alike=(9,)), table()], [0, 1], [number_tie(0, 0)])
        self.costs(told, [0, 1], [SCAN, SCAN], 0)
        self.costs(told, [0, 1], [0, SCAN], 0 + 1 + 9 + 2)

    def test_some_rows_but_none_alike(self):
        told = case([table(1, 100, 1, alike=(0,)), table()], [0, 1], [number_tie(0, 0)])
        self.costs(told, [0, 1], [SCAN, SCAN], 7)
        self.costs(told, [0, 1], [0, SCAN], 3 + 0 + 0 + 2)

    def test_a_condition_of_one_place_with_itself(self):
        wide = table(2, 100, 0b11, alike=(1, 2))
        for i, j in itertools.product(range(2), repeat=2):
            told = case([wide, table(1, 16, alike=(16,))], [0, 1], [(0, i, 0, 0, j)])
            self.costs(told, [0, 1], [SCAN, SCAN], 7 + 100)
            self.costs(told, [1, 0], [SCAN, SCAN], 1 + 16 * 7)
            self.no_plan(told, [0, 1], [0, SCAN])
            self.no_plan(told, [1, 0], [SCAN, 0])

    def test_one_condition_twice(self):
        last = table(1, 16, alike=(16,))
        tables = [table(1, 100, 1, alike=(4,)), table(1, 50, 1, alike=(5,)), last]
        for count in (1, 2, 6):
            told = case(tables, [0, 1, 2], [number_tie(0, 0)] * count + [(0, 0, 0, 1, 0)] * count)
            for first, second in itertools.product(range(count), range(count, 2 * count)):
                # L of place 0: 3 + 1 + 4 + 2; of place 1: 2 + 1 + 5 + 2.
                self.costs(told, [0, 1, 2], [first, second, SCAN], 10 + 4 * 10 + 20)
                self.costs(told, [0, 1, 2], [SCAN, SCAN, SCAN], 7 + 4 * 4 + 20)
        both_ways = case(tables, [0, 1, 2], [(0, 0, 0, 1, 0), (1, 0, 0, 0, 0)])
        for cond in range(2):
            self.costs(both_ways, [0, 1, 2], [SCAN, cond, SCAN], 7 + 100 * 10 + 500)

    def test_two_places_of_one_table(self):
        wide = table(2, 100, 0b01, alike=(4, 9))
        told = case([table(), wide], [1, 1], [(0, 1, 0, 1, 0), number_tie(0, 0)])
        self.costs(told, [0, 1], [SCAN, SCAN], 7 + 4 * 7)
        self.costs(told, [0, 1], [1, 0], 10 + 4 * 10)
        self.costs(told, [1, 0], [SCAN, 1], 7 + 100 * 10)
        self.no_plan(told, [1, 0], [SCAN, 0])
        self.no_plan(told, [0, 1], [SCAN, 1])

    def test_alike_above_rows(self):
        told = case([table(1, 5, 1, alike=(4096,)), table(1, 16, alike=(16,))], [0, 1], [number_tie(0, 0)])
        # A lookup goes by alike as it's told; the rows that come are at most those there are.
        self.costs(told, [0, 1], [0, SCAN], 1 + 128 + 4096 + 2 + 5)
        self.costs(told, [0, 1], [SCAN, SCAN], 1 + 5)

    def test_five_places_without_conditions(self):
        tables = [table(1, 17, 1, alike=(1,)), table(1, 33, 1, alike=(1,)), table(1, 1, 1, alike=(1,))]
        told = case(tables, [0, 1, 2, 1, 0])
        # Scans: 2, 3, 1, 3, 2. Rows: 17, 33, 1, 33, 17.
        self.costs(told, [0, 1, 2, 3, 4], [SCAN] * 5, 2 + 17 * 3 + 561 * 1 + 561 * 3 + 18513 * 2)
        self.costs(told, [2, 4, 0, 3, 1], [SCAN] * 5, 1 + 2 + 17 * 2 + 289 * 3 + 9537 * 3)
        for step in range(5):
            by = [SCAN] * 5
            by[step] = 0
            self.no_plan(told, [0, 1, 2, 3, 4], by)

    def test_a_condition_that_ties_a_place_to_a_later_one(self):
        tables = [table(1, 100, 1, alike=(1,)), table(1, 50, 1, alike=(2,)), table(1, 16, alike=(16,))]
        for cond in ((0, 0, 0, 1, 0), (1, 0, 0, 0, 0)):
            told = case(tables, [0, 1, 2], [cond])
            # The first of the two isn't lessened by it, the later one is.
            self.costs(told, [0, 1, 2], [SCAN] * 3, 7 + 100 * 4 + 200)
            self.costs(told, [1, 0, 2], [SCAN] * 3, 4 + 50 * 7 + 50)
            self.costs(told, [0, 2, 1], [SCAN] * 3, 7 + 100 + 1600 * 4)
            self.no_plan(told, [0, 1, 2], [0, SCAN, SCAN])
            self.no_plan(told, [1, 0, 2], [0, SCAN, SCAN])

    def test_five_places_at_the_largest_numbers(self):
        # 1, 4096, 4096^2, 4096^3 and 4096^4 rows come: 281543712968705 together.
        wide = table(4, 4096, 0b1111, alike=(4096,) * 4)
        conds = [number_tie(place, column) for place, column in zip([0, 1, 2, 3, 4] * 2, [0, 1, 2, 3, 0, 3, 2, 1, 0, 3])]
        told = case([wide] * 8, [7, 6, 5, 4, 3], conds + [(4, 0, 0, 0, 3)] * 2)
        self.costs(told, [0, 1, 2, 3, 4], [SCAN] * 5, 72075190519988480)
        self.costs(told, [4, 2, 0, 1, 3], [4, 7, 0, 6, 8], 1192056080709496970)
        self.costs(told, [0, 1, 2, 3, 4], [0, 1, 2, 3, 11], 1192056080709496970)
        self.costs(changed(told, "qconds", 0), [4, 3, 2, 1, 0], [SCAN] * 5, 72075190519988480)
        self.assertLess(1192056080709496970, 2 ** 62)


class Kept(unittest.TestCase):
    def calls(self):
        """Cases with plans, with lists that are no plan, and with questions that aren't right."""
        plans = [
            (small(), [0], [SCAN]),
            (middle(), [0, 1, 2], [SCAN, SCAN, 0]),
            (middle(), [2, 0, 1], [SCAN, 0, SCAN]),
            (full(), [4, 2, 0, 1, 3], [SCAN, SCAN, 0, 6, SCAN]),
        ]
        for told, order, by in plans:
            yield told, behind(order), behind(by)
            yield told, behind(order), behind([12] + by[1:])
            yield told, [GREATEST] * 5, [GREATEST] * 5
            yield told, [0] * 5, [0] * 5
            for name in NUMBERS:
                yield changed(told, name, GREATEST), behind(order), behind(by)
            for name in LISTS:
                for at in range(1, len(told[name])):
                    yield changed(told, name, 0, at), behind(order), behind(by)

    def test_the_calls_below_are_of_every_kind(self):
        answers = [db_cost(*arguments(told), order, by) for told, order, by in self.calls()]
        self.assertIn([0, -22], answers)
        self.assertIn([0, -2], answers)
        self.assertGreater(max(answers), [0, 0])

    def test_what_is_handed_in_is_not_changed(self):
        for told, order, by in self.calls():
            ahead = copy.deepcopy((told, order, by))
            db_cost(*arguments(told), order, by)
            self.assertEqual((told, order, by), ahead)

    def test_what_is_handed_in_is_not_changed_for_a_while(self):
        for told, order, by in self.calls():
            handed = [Locked(part) if isinstance(part, list) else part for part in arguments(told)]
            db_cost(*handed, Locked(order), Locked(by))

    def test_a_second_call_answers_as_the_first(self):
        for told, order, by in self.calls():
            first = db_cost(*arguments(told), order, by)
            self.assertEqual(db_cost(*arguments(told), order, by), first)

    def test_a_call_between_has_no_bearing(self):
        every = list(self.calls())
        firsts = [db_cost(*arguments(told), order, by) for told, order, by in every]
        for k in reversed(range(len(every))):
            told, order, by = every[k]
            db_right(*arguments(told))
            self.assertEqual(db_cost(*arguments(told), order, by), firsts[k])

    def test_an_answer_that_is_changed_has_no_bearing(self):
        for told, order, by in self.calls():
            answer = db_cost(*arguments(told), order, by)
            ahead = list(answer)
            answer[0] = 9
            answer.append(9)
            self.assertEqual(db_cost(*arguments(told), order, by), ahead)


class Interface(unittest.TestCase):
    def test_arguments_in_their_order(self):
        names = list(inspect.signature(db_cost).parameters)
        self.assertEqual(names, list(NUMBERS + LISTS) + ["order", "by"])

    def test_arguments_by_name(self):
        # Place 2 first, 50 rows, S 4; place 0 by condition 0: 1 + 1 + 3 + 2; it has 9 rows, alike 3; place 1, S 7.
        answer = db_cost(order=[2, 0, 1, 9, 9], by=[SCAN, 0, SCAN, 9, 9], **middle())
        self.assertEqual(answer, [0, 4 + 50 * 7 + 150 * 7])

    def test_the_answer_is_a_list_of_whole_numbers(self):
        for told, order in ((small(), [0]), (small(), [1]), (changed(small(), "cnone", 1), [0])):
            answer = answered(told, order, [SCAN])
            self.assertIs(type(answer), list)
            self.assertEqual([type(number) for number in answer], [int, int])


if __name__ == "__main__":
    unittest.main()
