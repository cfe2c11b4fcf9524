"""Promise 3: db_best answers -22, or what the plan costs that costs least, and that plan.

What a plan costs is reckoned by hand here, in the words of the document: S is rows / 16
rounded up; L is the binary digits of rows / 32 rounded up, and alike / 32 rounded up, and
alike, and 2. These tables stand in many of the cases:

- 100 rows: S is 7; 3 digits, so L is 6 + alike for an alike of 1 to 32, and 5 for 0;
- 160 rows: S is 10; 3 digits;
- 1000 rows: S is 63; 6 digits, so L is 9 + alike for an alike of 1 to 32, and 8 for 0;
- 4096 rows: S is 256; 8 digits, so L is 11 + alike for an alike of 1 to 32.
"""

import builtins
import copy
import inspect
import io
import itertools
import sys
import unittest
from unittest import mock

from plancost.desk import db_best, db_cost, db_right
from tests.making import (
    GREATEST,
    GREATEST_J,
    JUNK_COND,
    LISTS,
    NUMBERS,
    SCAN,
    Locked,
    arguments,
    behind,
    case,
    changed,
    copied,
    drawn_case,
    full,
    middle,
    number_tie,
    small,
    table,
    wrongs,
)


def answered(told):
    return db_best(*arguments(told))


def written(cost, order, by):
    """The answer of form 1, as the interface writes it out."""
    return [1, cost, 5] + behind(order, 255) + [5] + behind(by, 255)


def cost_of(told, order, by):
    return db_cost(*arguments(told), behind(order), behind(by))[1]


def all_plans(told):
    """Every plan of the question with what it costs: all orders, all numbers in by."""
    places = told["qtables"]
    values = list(range(told["qconds"])) + [SCAN]
    for order in itertools.permutations(range(places)):
        for by in itertools.product(values, repeat=places):
            cost = cost_of(told, order, by)
            if cost >= 0:
                yield cost, order, by


def ways_of_step(told, order, step):
    """The numbers that db_cost takes at this step, where every other step is scanned."""
    ways = []
    for way in list(range(told["qconds"])) + [SCAN]:
        by = [SCAN] * told["qtables"]
        by[step] = way
        if cost_of(told, order, by) >= 0:
            ways.append(way)
    return ways


def plans_by_steps(told):
    """As all_plans, for questions of which that would take too long."""
    places = told["qtables"]
    for order in itertools.permutations(range(places)):
        for by in itertools.product(*[ways_of_step(told, order, step) for step in range(places)]):
            yield cost_of(told, order, by), order, by


class BestCase(unittest.TestCase):
    def best(self, told, cost, order, by, what=None):
        with self.subTest(what=what):
            self.assertEqual(answered(told), written(cost, order, by))

    def refused(self, told, what=None):
        with self.subTest(what=what):
            self.assertEqual(answered(told), [0, -22])

    def first_of_the_least(self, told, plans, what=None):
        """plans come as tuples of cost, order and by, so the least of them is the first that costs least."""
        with self.subTest(what=what, told=told):
            self.assertEqual(answered(told), written(*min(plans)))

    def costs_what_is_told(self, told, what=None):
        """db_cost at the plan that is told gives the same number."""
        answer = answered(told)
        with self.subTest(what=what, told=told):
            self.assertEqual(answer[0], 1)
            self.assertEqual(db_cost(*arguments(told), answer[3:8], answer[9:14]), [0, answer[1]])


class Refusals(BestCase):
    def test_what_the_wrong_ones_are_made_of_is_right(self):
        self.assertEqual(answered(middle())[0], 1)

    def test_each_way_to_be_wrong(self):
        for told in wrongs():
            self.refused(told, told)

    def test_two_ways_at_once(self):
        for told in wrongs():
            self.refused(changed(told, "cnone", 1), told)
            self.refused(changed(told, "qnone", 1), told)

    def test_refuses_just_where_db_right_does(self):
        for told in (small(), middle(), drawn_case(3, 3, 12)):
            for name in NUMBERS:
                for value in range(14):
                    self.as_db_right(changed(told, name, value))
            for name in LISTS:
                for at, value in itertools.product(range(1, len(told[name])), (0, 1, 3, 5, 255, 4097)):
                    self.as_db_right(changed(told, name, value, at))

    def as_db_right(self, told):
        right = db_right(*arguments(told))
        answer = answered(told)
        with self.subTest(told=told):
            if right == [0, 0]:
                self.assertEqual((answer[0], len(answer)), (1, 14))
                self.assertGreaterEqual(answer[1], 0)
            else:
                self.assertEqual(answer, right)

    def test_every_number_the_greatest(self):
        told = full()
        for name in NUMBERS:
            told[name] = GREATEST
        for name in LISTS:
            told[name] = [GREATEST_J if name == "qcond" else GREATEST] * len(told[name])
        self.refused(told)

    def test_every_number_naught(self):
        told = full()
        for name in NUMBERS:
            told[name] = 0
        for name in LISTS:
            told[name] = [0] * len(told[name])
        self.refused(told)


class OnePlace(BestCase):
    def test_the_answer_written_out(self):
        told = case([table(1, 100)], [0])
        self.assertEqual(answered(told), [1, 7, 5, 0, 255, 255, 255, 255, 5, 255, 255, 255, 255, 255])
        told = case([table(1, 1000, 1, alike=(1,))], [0], [number_tie(0, 0)])
        self.assertEqual(answered(told), [1, 10, 5, 0, 255, 255, 255, 255, 5, 0, 255, 255, 255, 255])

    def test_a_lookup_that_reads_more_than_a_scan(self):
        # L is 6 + 2, or 3 + 2 + 40 + 2; S is 7.
        for alike in (2, 40, 4096):
            self.best(case([table(1, 100, 1, alike=(alike,))], [0], [number_tie(0, 0)]), 7, [0], [SCAN], alike)

    def test_of_a_lookup_and_a_scan_that_cost_alike_the_lookup(self):
        self.best(case([table(1, 100, 1, alike=(1,))], [0], [number_tie(0, 0)]), 7, [0], [0])
        # Also by the last of twelve conditions.
        conds = [(0, 0, 2, 255, 5)] * 11 + [number_tie(0, 0)]
        self.best(case([table(1, 100, 1, alike=(1,))], [0], conds), 7, [0], [11])

    def test_a_column_that_is_not_indexed(self):
        wide = table(2, 1000, 0b01, alike=(1, 1))
        self.best(case([wide], [0], [number_tie(0, 1)]), 63, [0], [SCAN])
        self.best(case([wide], [0], [number_tie(0, 1), number_tie(0, 0)]), 10, [0], [1])

    def test_only_op_0_serves(self):
        for op in range(1, 6):
            self.best(case([table(1, 1000, 1, alike=(1,))], [0], [(0, 0, op, 255, 5)]), 63, [0], [SCAN], op)

    def test_of_several_lookups_the_one_that_reads_least(self):
        # Looked up by column: 9 + 4, 9 + 2, 9 + 3, 9 + 5.
        wide = table(4, 1000, 0b1111, alike=(4, 2, 3, 5))
        for columns in itertools.permutations(range(4)):
            told = case([wide], [0], [number_tie(0, column) for column in columns])
            self.best(told, 11, [0], [columns.index(1)], columns)

    def test_of_several_lookups_that_read_alike_the_first(self):
        wide = table(3, 1000, 0b111, alike=(4, 2, 2))
        for columns, by in (((0, 1, 2), 1), ((0, 2, 1), 1), ((1, 2, 0), 0), ((2, 0, 1), 0), ((0, 0, 2, 2, 1), 2)):
            told = case([wide], [0], [number_tie(0, column) for column in columns])
            self.best(told, 11, [0], [by], columns)

    def test_another_table_than_the_first(self):
        told = case([table(1, 16), table(1, 1000, 1, alike=(1,))], [1], [number_tie(0, 0)])
        self.best(told, 10, [0], [0])


class TwoPlaces(BestCase):
    few = table(1, 160, 0, alike=(160,))
    many = table(1, 1000, 1, alike=(1,))

    def test_a_lookup_from_either_side_of_a_condition(self):
        # The 160 first: 10 + 160 * 10. The 1000 first: 63 + 1000 * 10, as the others aren't indexed.
        for cond in ((0, 0, 0, 1, 0), (1, 0, 0, 0, 0)):
            self.best(case([self.few, self.many], [0, 1], [cond]), 1610, [0, 1], [SCAN, 0], cond)
            self.best(case([self.few, self.many], [1, 0], [cond]), 1610, [1, 0], [SCAN, 0], cond)

    def test_the_columns_of_either_side(self):
        # Place 1 is looked up by column 2 (9 + 3); its columns 0 and 1 would read less, but aren't tied.
        many = table(3, 1000, 0b111, alike=(1, 2, 3))
        few = table(2, 160, 0b00, alike=(1, 160))
        for cond in ((0, 1, 0, 1, 2), (1, 2, 0, 0, 1)):
            self.best(case([few, many], [0, 1], [cond]), 10 + 160 * 12, [0, 1], [SCAN, 0], cond)

    def test_both_sides_are_indexed(self):
        # The 160 first: 10 + 160 * 10. The 1000 first: 63 + 1000 * 7, as L of the others is 3 + 1 + 1 + 2.
        few = table(1, 160, 1, alike=(1,))
        for cond in ((0, 0, 0, 1, 0), (1, 0, 0, 0, 0)):
            self.best(case([few, self.many], [0, 1], [cond]), 1610, [0, 1], [SCAN, 0], cond)
            self.best(case([few, self.many], [1, 0], [cond]), 1610, [1, 0], [SCAN, 0], cond)

    def test_a_place_tied_to_a_number(self):
        # Place 1 by the number, 10 and 1 row; then place 0 is scanned once, 10.
        told = case([self.few, self.many], [0, 1], [number_tie(1, 0)])
        self.best(told, 20, [1, 0], [0, SCAN])
        # The other way round: 1 row comes to place 1.
        told = case([self.few, self.many], [1, 0], [number_tie(0, 0)])
        self.best(told, 20, [0, 1], [0, SCAN])

    def test_a_tie_to_a_number_and_a_lookup_behind_it(self):
        # Place 0 by the number, 10 and 1 row; then place 1 by the condition, once, 10.
        told = case([self.many], [0, 0], [(0, 0, 0, 1, 0), number_tie(0, 0)])
        self.best(told, 20, [0, 1], [1, 0])
        told = case([self.many], [0, 0], [(0, 0, 0, 1, 0), number_tie(1, 0)])
        self.best(told, 20, [1, 0], [1, 0])

    def test_a_tie_by_a_column_that_is_not_indexed(self):
        # Nothing can be looked up, but of place 1 only 2 rows go on: 10 + 2 * 10, else 10 + 160 * 10.
        one = table(1, 160, 0, alike=(2,))
        self.best(case([self.few, one], [0, 1], [number_tie(1, 0)]), 30, [1, 0], [SCAN, SCAN])
        self.best(case([self.few, one], [1, 0], [number_tie(0, 0)]), 30, [0, 1], [SCAN, SCAN])

    def test_a_tie_that_is_not_indexed_beside_a_lookup(self):
        # Place 0 is scanned, and 3 rows go on by column 1: 10 + 3 * 10.
        few = table(2, 160, 0, alike=(160, 3))
        told = case([few, self.many], [0, 1], [number_tie(0, 1), (0, 0, 0, 1, 0)])
        self.best(told, 40, [0, 1], [SCAN, 1])

    def test_the_rows_go_by_the_least_and_the_pages_by_the_way(self):
        # Place 0 by column 0, 9 + 5; by column 1, not indexed, 2 rows go on; place 1 twice, 10.
        first = table(2, 1000, 0b01, alike=(5, 2))
        told = case([first, self.many], [0, 1], [number_tie(0, 0), number_tie(0, 1), (0, 0, 0, 1, 0)])
        self.best(told, 14 + 2 * 10, [0, 1], [0, 2])

    def test_scans_alone(self):
        # 7 + 100 * 1, the other way round 1 + 16 * 7: fewer rows needn't come first.
        self.best(case([table(1, 100), table(1, 16)], [0, 1]), 107, [0, 1], [SCAN, SCAN])
        # 7 + 99 * 1, the other way round 1 + 14 * 7.
        self.best(case([table(1, 99), table(1, 14)], [0, 1]), 99, [1, 0], [SCAN, SCAN])


class ThreePlaces(BestCase):
    # L of each by its tie: 11 + 4; 9 + 5; 11 + 1.
    tables = [table(1, 4096, 1, alike=(4,)), table(2, 1000, 0b10, alike=(7, 5)), table(1, 4096, 1, alike=(1,))]

    def test_lookups_one_behind_another(self):
        # By the number, 15 and 4 rows; 4 * 14 and 20 rows; 20 * 12. Each other order begins with a scan
        # of 63 or more, to which 1000 rows or more answer, or goes on with 4 * 256.
        cost = 15 + 4 * 14 + 20 * 12
        for places in itertools.permutations(range(3)):
            first, second, third = [places.index(number) for number in range(3)]
            conds = [(third, 0, 0, second, 0), (first, 0, 0, second, 1), number_tie(first, 0)]
            self.best(case(self.tables, places, conds), cost, [first, second, third], [2, 1, 0], places)
            # The same conditions from their other sides, and in another order.
            conds = [number_tie(first, 0), (second, 1, 0, first, 0), (second, 0, 0, third, 0)]
            self.best(case(self.tables, places, conds), cost, [first, second, third], [0, 1, 2], places)

    def test_a_tie_to_the_place_two_steps_before(self):
        # Place 1 is looked up from place 0, and so is place 2: 1 + 3 * 10 + 3 * 12.
        tables = [table(2, 3, 0, alike=(3, 3)), table(1, 1000, 1, alike=(1,)), table(1, 4096, 1, alike=(1,))]
        told = case(tables, [0, 1, 2], [(2, 0, 0, 0, 1), (0, 0, 0, 1, 0)])
        self.best(told, 1 + 3 * 10 + 3 * 12, [0, 1, 2], [SCAN, 1, 0])

    def test_scans_alone(self):
        # S 1, 2, 3 and 1, 17, 33 rows, in every numbering: 1 + 2 + 17 * 3.
        tables = [table(1, 1), table(1, 17), table(1, 33)]
        for places in itertools.permutations(range(3)):
            order = [places.index(number) for number in range(3)]
            self.best(case(tables, places), 1 + 2 + 17 * 3, order, [SCAN] * 3, places)

    def test_ties_by_columns_that_are_not_indexed(self):
        # S 10 each. From place 2 (2 rows by a number) to place 0 (3 rows) to place 1: 10 + 2 * 10 + 6 * 10.
        # Place 1 second would be 10 + 2 * 10 + 320 * 10.
        tables = [table(1, 160, 0, alike=(3,)), table(1, 160, 0, alike=(4,)), table(1, 160, 0, alike=(2,))]
        told = case(tables, [0, 1, 2], [(0, 0, 0, 2, 0), (0, 0, 0, 1, 0), number_tie(2, 0)])
        self.best(told, 90, [2, 0, 1], [SCAN] * 3)


class Alike(BestCase):
    def test_the_first_order(self):
        for places in range(1, 6):
            told = case([table(1, 3)], [0] * places)
            # S is 1, and 1, 3, 9, 27, 81 rows come.
            self.best(told, sum(3 ** step for step in range(places)), range(places), [SCAN] * places, places)

    def test_the_first_order_of_some(self):
        # Places 1 and 3 have one row, the others two: of each kind the lower number first.
        told = case([table(1, 2), table(1, 1)], [0, 1, 0, 1, 0])
        self.best(told, 1 + 1 + 1 + 2 + 4, [1, 3, 0, 2, 4], [SCAN] * 5)

    def test_the_order_counts_ahead_of_by(self):
        # [0, 1] by [255, 0] and [1, 0] by [0, 255] both cost 1 + 7.
        told = case([table(1, 1), table(1, 100, 1, alike=(1,))], [0, 1], [number_tie(1, 0)])
        self.assertEqual([cost_of(told, [0, 1], [SCAN, 0]), cost_of(told, [1, 0], [0, SCAN])], [8, 8])
        self.best(told, 8, [0, 1], [SCAN, 0])

    def test_the_order_counts_number_by_number(self):
        # The two of one row cost alike wherever they stand ahead of place 0.
        told = case([table(1, 17), table(1, 1)], [0, 1, 1])
        self.best(told, 1 + 1 + 2, [1, 2, 0], [SCAN] * 3)

    def test_by_number_by_number(self):
        one = table(1, 1000, 1, alike=(1,))
        # Each place has two conditions that serve alike.
        told = case([one], [0, 0], [number_tie(1, 0), number_tie(0, 0), number_tie(0, 0), number_tie(1, 0)])
        self.best(told, 20, [0, 1], [1, 0])
        told = case([one], [0, 0], [(0, 0, 1, 1, 0), (1, 0, 0, 0, 0), number_tie(1, 0), number_tie(0, 0)])
        self.best(told, 20, [0, 1], [3, 1])

    def test_a_tie_and_a_number_that_serve_alike(self):
        one = table(1, 1000, 1, alike=(1,))
        told = case([one], [0, 0], [number_tie(0, 0), number_tie(1, 0), (0, 0, 0, 1, 0)])
        self.best(told, 20, [0, 1], [0, 1])
        told = case([one], [0, 0], [number_tie(0, 0), (0, 0, 0, 1, 0), number_tie(1, 0)])
        self.best(told, 20, [0, 1], [0, 1])

    def test_of_a_lookup_and_a_scan_that_cost_alike_the_lookup(self):
        # L and S are both 7.
        told = case([table(1, 100, 1, alike=(1,))], [0, 0], [(0, 0, 0, 1, 0)])
        self.best(told, 7 + 100 * 7, [0, 1], [SCAN, 0])


class NoRows(BestCase):
    none = table(1, 0, 1, alike=(0,))
    many = table(2, 4096, 0b11, alike=(4096, 1))

    def test_one_place(self):
        self.best(case([self.none], [0]), 0, [0], [SCAN])
        # A lookup would read 2.
        self.best(case([self.none], [0], [number_tie(0, 0)]), 0, [0], [SCAN])

    def test_a_place_without_rows_comes_first(self):
        for places in range(2, 6):
            for empty in range(places):
                of_places = [1] * places
                of_places[empty] = 0
                order = [empty] + [place for place in range(places) if place != empty]
                self.best(case([self.none, self.many], of_places), 0, order, [SCAN] * places, of_places)

    def test_behind_it_every_way_costs_alike(self):
        # None come, so the first condition that serves, though it would read 4234 pages, and column 1 only 12.
        told = case([self.none, self.many], [0, 1], [number_tie(1, 0), number_tie(1, 1)])
        self.best(told, 0, [0, 1], [SCAN, 0])
        told = case([self.none, self.many], [0, 1], [number_tie(1, 1), number_tie(1, 0)])
        self.best(told, 0, [0, 1], [SCAN, 0])

    def test_behind_it_a_lookup_comes_ahead_of_a_scan(self):
        told = case([self.none, self.many], [0, 1], [number_tie(0, 0), (1, 0, 0, 0, 0)])
        self.best(told, 0, [0, 1], [SCAN, 1])
        told = case([self.none], [0, 0], [(0, 0, 0, 1, 0)])
        self.best(told, 0, [0, 1], [SCAN, 0])

    def test_every_place_is_without_rows(self):
        for places in range(1, 6):
            told = case([self.none], [0] * places, [number_tie(place, 0) for place in range(places)])
            self.best(told, 0, range(places), [SCAN] + list(range(1, places)), places)

    def test_none_alike(self):
        # Place 1 by the number reads 5, and none go on; place 0 by condition 0, which serves then.
        told = case([self.many, table(1, 100, 1, alike=(0,))], [0, 1], [(0, 0, 0, 1, 0), number_tie(1, 0)])
        self.best(told, 5, [1, 0], [1, 0])

    def test_no_rows_but_some_alike(self):
        told = case([table(1, 0, 1, alike=(9,)), table(1, 100)], [1, 0], [number_tie(1, 0)])
        self.best(told, 0, [1, 0], [SCAN, SCAN])


class Behind(BestCase):
    def test_what_stands_behind_the_places(self):
        for places in range(1, 6):
            conds = [number_tie(place, 0) for place in range(places)]
            told = case([table(1, 1000, 1, alike=(1,))], [0] * places, conds)
            numbers = list(range(places)) + [255] * (5 - places)
            self.assertEqual(answered(told), [1, 10 * places, 5] + numbers + [5] + numbers)

    def test_what_is_not_there_is_not_looked_at(self):
        for told in (small(), middle(), drawn_case(8, 2, 3)):
            first = answered(told)
            for value in (0, 1, 4097, GREATEST):
                other = copied(told)
                other["ctable"][1 + 9 * told["ctables"]:] = [value] * (72 - 9 * told["ctables"])
                other["qtable"][told["qtables"]:] = [value] * (8 - told["qtables"])
                other["qout"][2 * told["qouts"]:] = [value] * (16 - 2 * told["qouts"])
                self.assertEqual(answered(other), first)

    def test_conditions_behind_the_count_serve_nothing(self):
        told = case([table(1, 1000, 1, alike=(1,))], [0], [(0, 0, 1, 255, 5)] + [number_tie(0, 0)] * 11)
        self.best(changed(told, "qconds", 0), 63, [0], [SCAN])
        self.best(changed(told, "qconds", 1), 63, [0], [SCAN])
        self.best(changed(told, "qconds", 2), 10, [0], [1])
        told["qcond"][10:] = JUNK_COND * 10
        self.best(changed(told, "qconds", 2), 10, [0], [1])

    def test_outs_have_no_bearing(self):
        told = middle()
        first = answered(told)
        told["qout"] = [0, 2, 2, 1, 1, 0, 2, 0] * 2
        for outs in range(1, 9):
            self.assertEqual(answered(changed(told, "qouts", outs)), first)

    def test_the_number_that_is_compared_with_has_no_bearing(self):
        for number in (-(2 ** 31), -1, 0, 1, 4, 255, 2 ** 31 - 1):
            told = case([table(1, 1000, 1, alike=(1,))], [0, 0], [number_tie(1, 0, number)])
            self.best(told, 10 + 63, [1, 0], [0, SCAN], number)


class Corners(BestCase):
    """No rows: see NoRows."""

    def test_a_condition_of_one_place_with_itself(self):
        wide = table(2, 1000, 0b11, alike=(1, 1))
        for i, j in itertools.product(range(2), repeat=2):
            self.best(case([wide], [0], [(0, i, 0, 0, j)]), 63, [0], [SCAN], (i, j))
            # It doesn't lessen the rows either: 1 + 16 * 63, else 63 + 1000 * 1.
            told = case([wide, table(1, 16)], [0, 1], [(0, i, 0, 0, j)])
            self.best(told, 1 + 16 * 63, [1, 0], [SCAN, SCAN], (i, j))

    def test_one_condition_twice(self):
        one = table(1, 1000, 1, alike=(1,))
        for count in (1, 2, 12):
            self.best(case([one], [0], [number_tie(0, 0)] * count), 10, [0], [0], count)
            self.best(case([one], [0, 0], [(0, 0, 0, 1, 0)] * count), 63 + 1000 * 10, [0, 1], [SCAN, 0], count)
        for conds in ([(0, 0, 0, 1, 0), (1, 0, 0, 0, 0)], [(1, 0, 0, 0, 0), (0, 0, 0, 1, 0)]):
            self.best(case([one], [0, 0], conds), 63 + 1000 * 10, [0, 1], [SCAN, 0], conds)

    def test_two_places_of_one_table(self):
        # Place 0 by the number, 9 + 4 and 4 rows; place 1 by its column 0, 4 * 13.
        wide = table(2, 1000, 0b01, alike=(4, 9))
        told = case([table(), wide], [1, 1], [(0, 1, 0, 1, 0), number_tie(0, 0)])
        self.best(told, 13 + 4 * 13, [0, 1], [1, 0])
        # With the numbers of the places swapped.
        told = case([table(), wide], [1, 1], [(1, 1, 0, 0, 0), number_tie(1, 0)])
        self.best(told, 13 + 4 * 13, [1, 0], [1, 0])

    def test_alike_above_rows(self):
        # S is 1, L 1 + 128 + 4096 + 2; at most 5 rows go on: 1 + 5 * 1, else 1 + 16 * 1.
        told = case([table(1, 16), table(1, 5, 1, alike=(4096,))], [0, 1], [number_tie(1, 0)])
        self.best(told, 6, [1, 0], [SCAN, SCAN])

    def test_five_places_without_conditions(self):
        # S 2, 3, 1, 3, 2, and 17, 33, 1, 33, 17 rows. Ahead goes whichever of two neighbours makes both cost less:
        # that of 1 row ahead of all (1 + 2 below 2 + 17), 17 ahead of 33 (2 + 17 * 3 below 3 + 33 * 2).
        tables = [table(1, 17, 1, alike=(1,)), table(1, 33, 1, alike=(1,)), table(1, 1, 1, alike=(1,))]
        told = case(tables, [0, 1, 2, 1, 0])
        self.best(told, 1 + 2 + 17 * 2 + 289 * 3 + 9537 * 3, [2, 0, 4, 1, 3], [SCAN] * 5)
        self.first_of_the_least(told, all_plans(told))

    def test_a_condition_that_ties_a_place_to_a_later_one(self):
        # Place 0 ahead of place 1 is neither looked up nor lessened to 0 rows: 1 + 1 * 10, else 10 + 160 * 1.
        tables = [table(1, 1, 1, alike=(0,)), table(1, 160, 0, alike=(160,))]
        for cond in ((0, 0, 0, 1, 0), (1, 0, 0, 0, 0)):
            self.best(case(tables, [0, 1], [cond]), 11, [0, 1], [SCAN, SCAN], cond)
        # It serves once the place comes later: 10 + 160 * 10, else 63 + 1000 * 10.
        tables = [table(1, 1000, 1, alike=(1,)), table(1, 160, 0, alike=(160,))]
        for cond in ((0, 0, 0, 1, 0), (1, 0, 0, 0, 0)):
            self.best(case(tables, [0, 1], [cond]), 1610, [1, 0], [SCAN, 0], cond)


class AgainstEveryPlan(BestCase):
    """What holds, a: no plan costs less; and of those that cost as little this is the first."""

    def test_all_orders_and_all_numbers_in_by(self):
        # Of each count of places: up to how many conditions, and how many questions.
        for places, most, count in ((1, 12, 60), (2, 7, 60), (3, 4, 40), (4, 2, 12)):
            for seed in range(count):
                told = drawn_case(1000 * places + seed, places, seed % (most + 1))
                self.first_of_the_least(told, all_plans(told), seed)

    def test_all_orders_and_all_ways(self):
        for places, conds, count in ((2, 12, 30), (3, 8, 30), (3, 12, 10), (4, 6, 10)):
            for seed in range(count):
                told = drawn_case(5000 * places + seed, places, conds)
                self.first_of_the_least(told, plans_by_steps(told), seed)

    def test_the_two_walks_over_the_plans_are_of_the_same_plans(self):
        for places, conds in ((1, 5), (2, 5), (3, 3)):
            for seed in range(5):
                told = drawn_case(seed, places, conds)
                self.assertEqual(sorted(all_plans(told)), sorted(plans_by_steps(told)))

    def test_the_corners(self):
        one = table(2, 100, 0b11, alike=(1, 120))
        none = table(1, 0, 1, alike=(3,))
        for tables, places, conds in (
            ([none, one], [1, 0, 1], [(1, 0, 0, 0, 0), number_tie(2, 0), (0, 1, 0, 2, 1)]),
            ([one], [0, 0], [(0, 0, 0, 0, 1), (1, 1, 0, 1, 1), (0, 0, 0, 1, 1)]),
            ([one], [0, 0, 0], [(0, 0, 0, 1, 1), (0, 0, 0, 1, 1), (1, 1, 0, 2, 1), (1, 1, 0, 2, 1)]),
            ([one, table(1, 5, 1, alike=(6,))], [0, 1, 1], [(0, 1, 0, 1, 0), (2, 0, 0, 0, 1), number_tie(1, 0)]),
            ([one, none], [0, 0, 1, 1], [(0, 0, 0, 1, 0), (2, 0, 0, 3, 0), (3, 0, 0, 0, 0)]),
        ):
            told = case(tables, places, conds)
            self.first_of_the_least(told, all_plans(told), conds)

    def test_what_is_told_is_what_that_plan_costs(self):
        for places in range(1, 6):
            for seed in range(12):
                self.costs_what_is_told(drawn_case(seed, places, seed + 1), (places, seed))
        for told in (small(), middle(), full()):
            self.costs_what_is_told(told)

    def test_five_places(self):
        for seed in range(4):
            told = drawn_case(seed, 5, 12)
            least = answered(told)[1]
            for order in itertools.permutations(range(5)):
                by = [ways_of_step(told, order, step)[0] for step in range(5)]
                self.assertGreaterEqual(cost_of(told, order, by), least)
                self.assertGreaterEqual(cost_of(told, order, [SCAN] * 5), least)


class BetterKnown(BestCase):
    """What holds, b: with one number better known the best costs no more."""

    def better(self, told):
        """Copies with fewer rows, fewer alike, or one more column indexed, each in one table."""
        ctable = told["ctable"]
        for start in range(1, 1 + 9 * told["ctables"], 9):
            cols, rows, indexed = ctable[start:start + 3]
            for fewer in {rows - 1, rows // 2, 1, 0} & set(range(rows)):
                yield changed(told, "ctable", fewer, start + 1)
            for column in range(cols):
                alike = ctable[start + 5 + column]
                for fewer in {alike - 1, alike // 2, 1, 0} & set(range(alike)):
                    yield changed(told, "ctable", fewer, start + 5 + column)
                if not indexed & 2 ** column:
                    yield changed(told, "ctable", indexed + 2 ** column, start + 2)

    def test_the_best_costs_no_more(self):
        for places, count in ((1, 20), (2, 20), (3, 15), (4, 5), (5, 1)):
            for seed in range(count):
                told = drawn_case(300 * places + seed, places, 2 + seed % 11)
                ahead = answered(told)[1]
                for other in self.better(told):
                    with self.subTest(told=told, other=other["ctable"]):
                        form, cost = answered(other)[:2]
                        self.assertEqual(form, 1)
                        self.assertLessEqual(cost, ahead)

    def test_by_hand(self):
        told = case([table(1, 160, 0, alike=(160,)), table(1, 1000, 1, alike=(1,))], [0, 1], [(0, 0, 0, 1, 0)])
        self.best(told, 10 + 160 * 10, [0, 1], [SCAN, 0])
        # Fewer rows at place 0; at place 1 (5 digits, L 9); fewer alike (L 8); nothing more by an index at place 0.
        self.best(changed(told, "ctable", 144, 2), 9 + 144 * 10, [0, 1], [SCAN, 0])
        self.best(changed(told, "ctable", 992, 11), 10 + 160 * 9, [0, 1], [SCAN, 0])
        self.best(changed(told, "ctable", 0, 15), 10 + 160 * 8, [0, 1], [SCAN, 0])
        self.best(changed(told, "ctable", 1, 3), 10 + 160 * 10, [0, 1], [SCAN, 0])
        # Without the index at place 1: 10 + 160 * 63; the other way round 63 + 1000 * 10.
        self.best(changed(told, "ctable", 0, 12), 63 + 1000 * 10, [1, 0], [SCAN, SCAN])


class BelowTheBound(BestCase):
    """What holds, c: what's told is below 2^62."""

    def test_five_places_and_twelve_conditions_at_the_largest_numbers(self):
        # S is 256 and L 4234, so all is scanned; 1, 4096, .. 4096^4 rows come: 281543712968705 together.
        wide = table(4, 4096, 0b1111, alike=(4096,) * 4)
        cost = 281543712968705 * 256
        self.assertLess(cost, 2 ** 62)
        numbers = [number_tie(k % 5, k % 4) for k in range(12)]
        ring = [(k % 5, k % 4, 0, (k + 1) % 5, 3 - k % 4) for k in range(12)]
        star = [(k % 5, k % 4, 0, 4, 3) for k in range(12)]
        for conds in (numbers, ring, star, []):
            self.best(case([wide] * 8, [7, 6, 5, 4, 3], conds), cost, [0, 1, 2, 3, 4], [SCAN] * 5)
            self.best(case([wide], [0] * 5, conds), cost, [0, 1, 2, 3, 4], [SCAN] * 5)

    def test_every_way_is_a_lookup(self):
        # By numbers: 12 and 1 row, five times.
        wide = table(4, 4096, 0b1111, alike=(1,) * 4)
        numbers = [number_tie(4 - k % 5, k % 4) for k in range(12)]
        self.best(case([wide], [0] * 5, numbers), 60, [0, 1, 2, 3, 4], [4, 3, 2, 1, 0])
        # In a ring: one scan, and 4096 rows come to each of four lookups. Condition k ties places k and k + 1,
        # the last places 4 and 0; of those that repeat behind them none comes first.
        ring = [(k % 5, 0, 0, (k + 1) % 5, 0) for k in range(12)]
        self.best(case([wide], [0] * 5, ring), 256 + 4 * 4096 * 12, [0, 1, 2, 3, 4], [SCAN, 0, 1, 2, 3])

    def test_drawn_questions(self):
        for places in range(1, 6):
            for seed in range(10):
                self.assertLess(answered(drawn_case(70 * places + seed, places, 12))[1], 2 ** 62)
        self.assertLess(answered(full())[1], 2 ** 62)


class Kept(unittest.TestCase):
    def cases(self):
        """Questions that are right, of one place to five, and some that aren't."""
        for told in (small(), middle(), drawn_case(1, 4, 5)):
            yield told
            for name in NUMBERS:
                yield changed(told, name, GREATEST)
            for name in LISTS:
                for at in range(1, len(told[name])):
                    yield changed(told, name, 0, at)
        yield full()
        for seed in range(10):
            yield drawn_case(seed, 1 + seed % 5, 12)

    def test_the_cases_below_are_of_every_kind(self):
        answers = [answered(told) for told in self.cases()]
        self.assertIn([0, -22], answers)
        self.assertIn(1, [answer[0] for answer in answers])

    def test_what_is_handed_in_is_not_changed(self):
        for told in self.cases():
            ahead = copy.deepcopy(told)
            answered(told)
            self.assertEqual(told, ahead)

    def test_what_is_handed_in_is_not_changed_for_a_while(self):
        for told in self.cases():
            for name in LISTS:
                told[name] = Locked(told[name])
            answered(told)

    def test_a_second_call_answers_as_the_first(self):
        for told in self.cases():
            first = answered(told)
            self.assertEqual(answered(told), first)

    def test_a_call_between_has_no_bearing(self):
        every = list(self.cases())
        firsts = [answered(told) for told in every]
        for k in reversed(range(len(every))):
            db_right(*arguments(every[k]))
            db_cost(*arguments(every[k]), [0] * 5, [SCAN] * 5)
            self.assertEqual(answered(every[k]), firsts[k])

    def test_db_right_and_db_cost_answer_as_if_for_the_first_time(self):
        told = middle()
        plan = ([2, 0, 1, 9, 9], [SCAN, 0, SCAN, 9, 9])
        self.assertEqual(db_cost(*arguments(told), *plan), [0, 4 + 50 * 7 + 150 * 7])
        for other in self.cases():
            answered(other)
            self.assertEqual(db_right(*arguments(told)), [0, 0])
            self.assertEqual(db_cost(*arguments(told), *plan), [0, 4 + 50 * 7 + 150 * 7])

    def test_an_answer_that_is_changed_has_no_bearing(self):
        for told in self.cases():
            answer = answered(told)
            ahead = list(answer)
            for at in range(len(answer)):
                answer[at] = 9
            answer.append(9)
            self.assertEqual(answered(told), ahead)


class Outside(unittest.TestCase):
    def test_nothing_is_printed_read_or_imported(self):
        def refuse(*args, **kwargs):
            raise AssertionError("something outside is reached for")

        cases = [(told, arguments(told)) for told in (small(), middle(), full(), changed(middle(), "cnone", 1))]
        out = io.StringIO()
        error = io.StringIO()
        loaded = sorted(sys.modules)
        with mock.patch("sys.stdout", out), mock.patch("sys.stderr", error), mock.patch("sys.stdin", None):
            with mock.patch.object(builtins, "open", refuse), mock.patch.object(builtins, "__import__", refuse):
                for told, handed in cases:
                    db_right(*handed)
                    db_cost(*handed, [0, 1, 2, 3, 4], [SCAN] * 5)
                    db_best(*handed)
        self.assertEqual((out.getvalue(), error.getvalue()), ("", ""))
        self.assertEqual(sorted(sys.modules), loaded)


class Interface(unittest.TestCase):
    def test_arguments_in_their_order(self):
        self.assertEqual(list(inspect.signature(db_best).parameters), list(NUMBERS + LISTS))

    def test_arguments_by_name(self):
        # Place 2 first, S 4, 50 rows; place 0, S 1 (L is 7), 3 rows of 9 by its tie; place 1, S 7.
        # The next best has place 0 first: 1 + 9 * 4 + 450 * 7, as of place 2 50 rows of 50 are alike.
        self.assertEqual(db_best(**middle()), written(4 + 50 * 1 + 150 * 7, [2, 0, 1], [SCAN] * 3))

    def test_the_answer_is_a_list_of_whole_numbers(self):
        for told in (small(), middle(), full(), changed(small(), "cnone", 1), changed(small(), "qnone", 1)):
            answer = answered(told)
            self.assertIs(type(answer), list)
            self.assertEqual({type(number) for number in answer}, {int})
            self.assertEqual(len(answer), 14 if answer[0] == 1 else 2)


if __name__ == "__main__":
    unittest.main()
