"""Promise 1: db_right answers -22 or 0."""

import copy
import inspect
import itertools
import unittest

from plancost.desk import db_right
from tests.making import (
    GREATEST,
    GREATEST_J,
    JUNK_COND,
    LEAST_J,
    LISTS,
    NUMBERS,
    Locked,
    arguments,
    case,
    changed,
    copied,
    full,
    middle,
    small,
    table,
)

WIDE = dict(cols=4, indexed=0b1010, alike=(4, 3, 2, 1))


def cols_at(k):
    return 1 + 9 * k


def rows_at(k):
    return 2 + 9 * k


def indexed_at(k):
    return 3 + 9 * k


def none_at(k):
    return 4 + 9 * k


def alike_at(k, column):
    return 6 + 9 * k + column


class RightCase(unittest.TestCase):
    def right(self, told, what=None):
        with self.subTest(what=what):
            self.assertEqual(db_right(*arguments(told)), [0, 0])

    def wrong(self, told, what=None):
        with self.subTest(what=what):
            self.assertEqual(db_right(*arguments(told)), [0, -22])

    def edges(self, told, name, at, good, bad):
        for value in good:
            self.right(changed(told, name, value, at), (name, at, value))
        for value in bad:
            self.wrong(changed(told, name, value, at), (name, at, value))


class Ordinary(RightCase):
    def test_one_of_each(self):
        self.right(small())

    def test_several_of_each(self):
        self.right(middle())

    def test_as_many_as_may_be(self):
        self.right(full())

    def test_as_many_as_may_be_is_as_the_interface_counts(self):
        told = full()
        self.assertEqual([len(told[name]) for name in LISTS], [73, 8, 60, 16])

    def test_tables_that_no_place_names(self):
        self.right(case([table(), table(**WIDE), table(2, alike=(1, 1))], [1], (), [(0, 3)]))

    def test_every_op_with_a_place_and_with_a_number(self):
        for op in range(6):
            self.right(case([table(**WIDE)], [0, 0], [(0, 3, op, 1, 2)]), op)
            self.right(case([table(**WIDE)], [0, 0], [(0, 3, op, 255, 2)]), op)

    def test_one_column_told_often(self):
        self.right(case([table(**WIDE)], [0], (), [(0, 2)] * 8))


class Corners(RightCase):
    def test_no_rows(self):
        self.right(case([table(1, 0, alike=(0,))], [0]))
        self.right(case([table(1, 0, 1, alike=(9,))], [0], [(0, 0, 0, 255, 1)]))

    def test_a_condition_of_one_place_with_itself(self):
        self.right(case([table(**WIDE)], [0], [(0, 1, 0, 0, 2)]))
        self.right(case([table(**WIDE)], [0], [(0, 1, 0, 0, 1)]))

    def test_one_condition_twice(self):
        self.right(case([table(**WIDE)], [0, 0], [(0, 1, 0, 1, 2)] * 2))
        self.right(case([table(**WIDE)], [0, 0], [(0, 1, 0, 255, 2)] * 12))

    def test_two_places_of_one_table(self):
        self.right(case([table(), table(**WIDE)], [1, 1], [(0, 3, 0, 1, 3)], [(0, 3), (1, 3)]))

    def test_alike_above_rows(self):
        self.right(case([table(2, 5, 0b11, alike=(6, 4096))], [0]))

    def test_five_places_without_conditions(self):
        self.right(case([table(), table(**WIDE)], [0, 1, 0, 1, 1], (), [(4, 3)]))

    def test_a_condition_that_ties_a_place_to_a_later_one(self):
        self.right(case([table(), table(**WIDE)], [0, 1], [(0, 0, 0, 1, 3)]))
        self.right(case([table(), table(**WIDE)], [0, 1], [(1, 3, 0, 0, 0)]))


class Catalogue(RightCase):
    def test_tables(self):
        for tables in range(1, 9):
            told = case([table()] * tables, [tables - 1])
            self.right(told, tables)
            self.right(changed(case([table()] * 8, [0]), "ctables", tables), tables)
        self.edges(case([table()] * 8, [0]), "ctables", None, [1, 8], [0, 9, 10, 256, GREATEST])

    def test_none(self):
        for told in (small(), middle(), full()):
            self.edges(told, "cnone", None, [0], [1, 2, 255, 256, 2 ** 32, GREATEST])

    def test_cols(self):
        # indexed 0 and every alike told, so that cols alone decides
        told = case([table(4, alike=(1, 1, 1, 1))] * 8, [0])
        for k in range(8):
            self.edges(told, "ctable", cols_at(k), [1, 2, 3, 4], [0, 5, 6, 256, 257, GREATEST])

    def test_rows(self):
        told = case([table()] * 8, [0])
        for k in range(8):
            self.edges(told, "ctable", rows_at(k), [0, 1, 4095, 4096], [4097, 8192, 2 ** 32, GREATEST])

    def test_indexed(self):
        for cols in range(1, 5):
            told = case([table(cols, alike=(1,) * cols)] * 8, [0])
            beyond = [2 ** bit for bit in range(cols, 63)]
            mixed = [2 ** cols + 1, 2 ** 62 + 1, 2 ** 32, GREATEST, GREATEST - (2 ** cols - 1)]
            for k in range(8):
                self.edges(told, "ctable", indexed_at(k), range(2 ** cols), beyond + mixed)

    def test_none_of_a_table(self):
        told = case([table()] * 8, [0])
        for k in range(8):
            self.edges(told, "ctable", none_at(k), [0], [1, 2, 255, 256, 2 ** 32, GREATEST])

    def test_alike(self):
        for cols in range(1, 5):
            told = case([table(cols, alike=(1,) * cols)] * 8, [0])
            for k, column in itertools.product(range(8), range(cols)):
                at = alike_at(k, column)
                self.edges(told, "ctable", at, [0, 1, 4095, 4096], [4097, 8192, 2 ** 32, GREATEST])

    def test_columns_that_are_not_there_are_not_looked_at(self):
        for cols in range(1, 5):
            told = case([table(cols, alike=(1,) * cols)] * 8, [0])
            for k, column in itertools.product(range(8), range(cols, 4)):
                self.edges(told, "ctable", alike_at(k, column), [0, 4096, 4097, GREATEST], [])

    def test_tables_that_are_not_there_are_not_looked_at(self):
        for tables in range(1, 8):
            told = case([table()] * tables, [0])
            for at in range(cols_at(tables), 73):
                self.edges(told, "ctable", at, [0, 1, 5, 4097, GREATEST], [])


class Counts(RightCase):
    def test_places(self):
        told = case([table()], [0] * 5)
        told["qtable"] = [0] * 8
        self.edges(told, "qtables", None, [1, 2, 3, 4, 5], [0, 6, 7, 8, 9, 256, 257, GREATEST])

    def test_conditions(self):
        told = case([table()], [0], [(0, 0, 0, 255, 0)] * 12)
        self.edges(told, "qconds", None, range(13), [13, 14, 256, 257, GREATEST])

    def test_outs(self):
        told = case([table()], [0], (), [(0, 0)] * 8)
        self.edges(told, "qouts", None, range(1, 9), [0, 9, 10, 256, 257, GREATEST])

    def test_none(self):
        for told in (small(), middle(), full()):
            self.edges(told, "qnone", None, [0], [1, 2, 255, 256, 2 ** 32, GREATEST])


class Places(RightCase):
    def test_a_place_names_a_table_that_is_there(self):
        for tables in range(1, 9):
            told = case([table()] * 8, [0] * 5)
            told["ctables"] = tables
            bad = list(range(tables, 10)) + [255, 256, 2 ** 32, GREATEST]
            for place in range(5):
                self.edges(told, "qtable", place, range(tables), bad)

    def test_places_that_are_not_there_are_not_looked_at(self):
        for places in range(1, 6):
            told = case([table()], [0] * places)
            for place in range(places, 8):
                self.edges(told, "qtable", place, [0, 1, 8, 255, GREATEST], [])


class Conditions(RightCase):
    """Five places whose tables have 2, 4, 1, 3 and 4 columns; table numbers differ from places."""

    cols = [2, 4, 1, 3, 4]

    def told(self, conds, places=5):
        tables = [table(n, alike=(1,) * n) for n in (4, 3, 1, 2)]
        return case(tables, [3, 0, 2, 1, 0][:places], conds)

    def test_a(self):
        for places, k in itertools.product(range(1, 6), range(12)):
            told = self.told([(0, 0, 0, 255, 0)] * 12, places)
            self.edges(told, "qcond", 5 * k, range(places), [places, 5, 6, 8, 254, 255])

    def test_a_beyond_the_places_though_a_table_stands_there(self):
        told = self.told([(0, 0, 0, 255, 0)], 2)
        told["qtable"] = [0] * 8
        self.edges(told, "qcond", 0, [0, 1], range(2, 256))

    def test_i(self):
        for place, k in itertools.product(range(5), range(12)):
            for b, j in ((255, 0), (place, 0), (2, 0)):
                told = self.told([(place, 0, 0, b, j)] * 12)
                cols = self.cols[place]
                bad = [cols, cols + 1, 4, 5, 255, 256, 2 ** 32, GREATEST]
                self.edges(told, "qcond", 5 * k + 1, range(cols), bad)

    def test_op(self):
        for k in range(12):
            for b in (255, 0, 1):
                told = self.told([(0, 0, 0, b, 0)] * 12)
                self.edges(told, "qcond", 5 * k + 2, range(6), [6, 7, 255, 256, 2 ** 32, GREATEST])

    def test_b(self):
        for places, k in itertools.product(range(1, 6), range(12)):
            told = self.told([(0, 0, 0, 0, 0)] * 12, places)
            self.edges(told, "qcond", 5 * k + 3, list(range(places)) + [255], [places, 5, 6, 8, 128, 253, 254])

    def test_b_beyond_the_places_though_a_table_stands_there(self):
        told = self.told([(0, 0, 0, 0, 0)], 2)
        told["qtable"] = [0] * 8
        self.edges(told, "qcond", 3, [0, 1, 255], range(2, 255))

    def test_j_as_a_column(self):
        for place, k in itertools.product(range(5), range(12)):
            cols = self.cols[place]
            bad = [-1, -2, -4, -5, cols, cols + 1, 4, 5, 255, LEAST_J, GREATEST_J]
            for a, op in ((0, 0), (place, 1), (2, 5)):
                told = self.told([(a, 0, op, place, 0)] * 12)
                self.edges(told, "qcond", 5 * k + 4, range(cols), bad)

    def test_j_as_a_number(self):
        for place, op in itertools.product(range(5), range(6)):
            told = self.told([(place, 0, op, 255, 0)] * 12)
            good = [LEAST_J, LEAST_J + 1, -5, -1, 0, 1, 3, 4, 5, 255, 4097, GREATEST_J - 1, GREATEST_J]
            for k in range(12):
                self.edges(told, "qcond", 5 * k + 4, good, [])

    def test_conditions_that_are_not_there_are_not_looked_at(self):
        for conds in range(12):
            told = self.told([(0, 0, 0, 255, 0)] * conds)
            for cond in range(conds, 12):
                for junk in (JUNK_COND, [255, 0, 6, 255, 0], [0, 4, 0, 0, -1], [0, 0, 0, 0, 0]):
                    other = copied(told)
                    other["qcond"][5 * cond:5 * cond + 5] = junk
                    self.right(other, (conds, cond, junk))


class Outs(RightCase):
    cols = [2, 4, 1, 3, 4]

    def told(self, outs, places=5):
        tables = [table(n, alike=(1,) * n) for n in (4, 3, 1, 2)]
        return case(tables, [3, 0, 2, 1, 0][:places], (), outs)

    def test_place(self):
        for places, k in itertools.product(range(1, 6), range(8)):
            told = self.told([(0, 0)] * 8, places)
            bad = [places, 5, 6, 8, 254, 255, 256, 2 ** 32, GREATEST]
            self.edges(told, "qout", 2 * k, range(places), bad)

    def test_place_beyond_the_places_though_a_table_stands_there(self):
        told = self.told([(0, 0)], 2)
        told["qtable"] = [0] * 8
        self.edges(told, "qout", 0, [0, 1], range(2, 257))

    def test_column(self):
        for place, k in itertools.product(range(5), range(8)):
            cols = self.cols[place]
            told = self.told([(place, 0)] * 8)
            bad = [cols, cols + 1, 4, 5, 255, 256, 2 ** 32, GREATEST]
            self.edges(told, "qout", 2 * k + 1, range(cols), bad)

    def test_outs_that_are_not_there_are_not_looked_at(self):
        for outs in range(1, 8):
            told = self.told([(0, 0)] * outs)
            for at in range(2 * outs, 16):
                self.edges(told, "qout", at, [0, 1, 4, 5, 255, GREATEST], [])


class SeveralWrong(RightCase):
    def test_catalogue_and_question(self):
        for count in (0, 9, GREATEST):
            told = changed(full(), "ctables", count)
            for name in ("qtables", "qconds", "qouts", "qnone"):
                self.wrong(changed(told, name, GREATEST), (count, name))

    def test_every_number_the_greatest(self):
        told = full()
        for name in NUMBERS:
            told[name] = GREATEST
        for name in LISTS:
            told[name] = [GREATEST_J if name == "qcond" else GREATEST] * len(told[name])
        self.wrong(told)

    def test_every_number_naught(self):
        told = full()
        for name in NUMBERS:
            told[name] = 0
        for name in LISTS:
            told[name] = [0] * len(told[name])
        self.wrong(told)


class Kept(unittest.TestCase):
    def cases(self):
        for told in (small(), middle(), full()):
            yield told
            for name in NUMBERS:
                yield changed(told, name, GREATEST)
            for name in LISTS:
                for at in range(1, len(told[name])):
                    yield changed(told, name, 6, at)

    def test_what_is_handed_in_is_not_changed(self):
        for told in self.cases():
            ahead = copy.deepcopy(told)
            db_right(*arguments(told))
            self.assertEqual(told, ahead)

    def test_what_is_handed_in_is_not_changed_for_a_while(self):
        for told in self.cases():
            for name in LISTS:
                told[name] = Locked(told[name])
            db_right(*arguments(told))

    def test_a_second_call_answers_as_the_first(self):
        for told in self.cases():
            first = db_right(*arguments(told))
            self.assertEqual(db_right(*arguments(told)), first)

    def test_a_call_between_has_no_bearing(self):
        every = list(self.cases())
        firsts = [db_right(*arguments(told)) for told in every]
        for k in reversed(range(len(every))):
            self.assertEqual(db_right(*arguments(every[k])), firsts[k])

    def test_an_answer_that_is_changed_has_no_bearing(self):
        for told in (full(), changed(full(), "cnone", 1), changed(full(), "qnone", 1)):
            answer = db_right(*arguments(told))
            ahead = list(answer)
            answer[0] = 9
            answer.append(9)
            self.assertEqual(db_right(*arguments(told)), ahead)


class Interface(unittest.TestCase):
    def test_arguments_in_their_order(self):
        self.assertEqual(list(inspect.signature(db_right).parameters), list(NUMBERS + LISTS))

    def test_arguments_by_name(self):
        self.assertEqual(db_right(**middle()), [0, 0])

    def test_the_answer_is_a_list_of_whole_numbers(self):
        for told in (small(), full(), changed(full(), "cnone", 1), changed(full(), "qnone", 1)):
            answer = db_right(*arguments(told))
            self.assertIs(type(answer), list)
            self.assertEqual([type(number) for number in answer], [int, int])


if __name__ == "__main__":
    unittest.main()
