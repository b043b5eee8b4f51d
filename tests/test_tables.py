"""Points 2 and 5 to 8: sums over all parts, products, the unit table and turned tables."""

import unittest

from partbook.errors import BadNumber, BadSize, BadTable, NoTurn
from partbook.tables import product, summed, taken_back, turned, unit
from plainly import (
    BELOW_ONE, LAST, NUMBERS, PARTS, assert_refused, ones_to, product_table, sample, samples, signs_to,
    small_tables, sum_table, turnable_samples, unit_to,
)

# Ends of the bound of point 1, and somewhat beyond it.
HUGE = (10 ** 99, 10 ** 100 - 1, 1 - 10 ** 100, 10 ** 120)


def partner(table):
    # A second table of the same size that is neither the first one nor simple.
    return sample(len(table), 5, len(table) + 1)


class Summed(unittest.TestCase):
    def test_written_out(self):
        self.assertEqual(summed([1, 1, 1, 1, 1, 1]), [1, 2, 2, 3, 2, 4])
        self.assertEqual(summed([1, 2, 3, 4, 5, 6]), [1, 3, 4, 7, 6, 12])
        self.assertEqual(summed([5, -3, 0, 2, -7, 10]), [5, 2, 5, 4, -2, 12])
        self.assertEqual(summed([1, 10, 100, 1000, 0, 0, 0, 10000]), [1, 11, 101, 1011, 1, 111, 1, 11011])

    def test_one_entry(self):
        for entry in (0, 1, -1, 2, -360) + HUGE:
            self.assertEqual(summed([entry]), [entry])

    def test_negative_entries(self):
        self.assertEqual(summed([-1, -2, -3, -4]), [-1, -3, -4, -7])

    def test_hundred_figures(self):
        for entry in HUGE:
            self.assertEqual(summed([entry] * 6), [entry, 2 * entry, 2 * entry, 3 * entry, 2 * entry, 4 * entry])

    def test_against_trying(self):
        for table in samples() + small_tables():
            self.assertEqual(summed(table), sum_table(table))

    def test_each_entry_reaches_just_the_multiples(self):
        for place in range(1, 41):
            table = [0] * 40
            table[place - 1] = 1
            self.assertEqual(summed(table), [1 if place in PARTS[number] else 0 for number in range(1, 41)])


class TakenBack(unittest.TestCase):
    def test_written_out(self):
        self.assertEqual(taken_back([1, 2, 2, 3, 2, 4]), [1, 1, 1, 1, 1, 1])
        self.assertEqual(taken_back([5, 2, 5, 4, -2, 12]), [5, -3, 0, 2, -7, 10])
        self.assertEqual(taken_back([1, 0, 0, 0, 0, 0]), [1, -1, -1, 0, -1, 1])
        self.assertEqual(taken_back([1, 1, 1, 1, 1, 1]), [1, 0, 0, 0, 0, 0])

    def test_one_entry(self):
        for entry in (0, 1, -1, 2, -360) + HUGE:
            self.assertEqual(taken_back([entry]), [entry])

    def test_negative_entries(self):
        self.assertEqual(taken_back([-1, -3, -4, -7]), [-1, -2, -3, -4])

    def test_hundred_figures(self):
        for entry in HUGE:
            self.assertEqual(taken_back([1, 2, 3, entry]), [1, 1, 2, entry - 2])
            self.assertEqual(taken_back([entry, 1, 1, 1, 1, 1]), [entry, 1 - entry, 1 - entry, 0, 1 - entry, entry - 1])

    def test_against_trying(self):
        for table in samples() + small_tables():
            self.assertEqual(taken_back(table), product_table(signs_to(len(table)), table))

    def test_there_and_back(self):
        for table in samples() + small_tables():
            self.assertEqual(taken_back(summed(table)), table)

    def test_back_and_there(self):
        for table in samples() + small_tables():
            self.assertEqual(summed(taken_back(table)), table)


class Product(unittest.TestCase):
    def test_written_out(self):
        self.assertEqual(product([1, 2, 3, 4], [5, 6, 7, 8]), [5, 16, 22, 40])
        self.assertEqual(product([0, 1, 0, 0, 0, 0], [1, 2, 3, 4, 5, 6]), [0, 1, 0, 2, 0, 3])
        self.assertEqual(product([-1, 2, 0, -3], [4, -5, 6, 7]), [-4, 13, -6, -29])

    def test_one_entry(self):
        self.assertEqual(product([3], [-4]), [-12])
        self.assertEqual(product([0], [5]), [0])

    def test_hundred_figures(self):
        for entry in HUGE:
            self.assertEqual(product([entry, entry], [entry, -1]), [entry * entry, entry * entry - entry])

    def test_against_trying(self):
        for table in samples() + small_tables():
            other = partner(table)
            self.assertEqual(product(table, other), product_table(table, other))

    def test_small_tables_against_trying(self):
        tables = [table for table in small_tables() if len(table) == 2]
        for one in tables:
            for two in tables:
                self.assertEqual(product(one, two), product_table(one, two))

    def test_with_itself(self):
        for table in samples():
            self.assertEqual(product(table, table), product_table(table, table))

    def test_both_orders(self):
        for table in samples():
            other = partner(table)
            self.assertEqual(product(table, other), product(other, table))

    def test_both_groupings(self):
        for table in samples():
            other = partner(table)
            third = sample(len(table), 3, 99)
            self.assertEqual(product(product(table, other), third), product(table, product(other, third)))

    def test_with_the_unit_table(self):
        for table in samples() + small_tables():
            self.assertEqual(product(table, unit(len(table))), table)
            self.assertEqual(product(unit(len(table)), table), table)

    def test_with_ones_is_the_sum_table(self):
        for table in samples():
            self.assertEqual(product(ones_to(len(table)), table), summed(table))
            self.assertEqual(product(table, ones_to(len(table))), summed(table))

    def test_ones_with_signs_is_the_unit_table(self):
        for size in (1, 2, 3, 4, 12, 360, 1000, LAST):
            self.assertEqual(product(ones_to(size), signs_to(size)), unit(size))
            self.assertEqual(product(signs_to(size), ones_to(size)), unit(size))

    def test_different_sizes_are_refused(self):
        for one, two in ((1, 2), (1, 1000), (3, 4), (12, 11), (500, 499)):
            assert_refused(self, BadSize, product, ones_to(one), ones_to(two))
            assert_refused(self, BadSize, product, ones_to(two), ones_to(one))

    def test_empty_is_refused_ahead_of_different_sizes(self):
        for table in ([1], [0], [1, 2], ones_to(500)):
            assert_refused(self, BadTable, product, [], table)
            assert_refused(self, BadTable, product, table, [])
        assert_refused(self, BadTable, product, [], [])


class Unit(unittest.TestCase):
    def test_written_out(self):
        self.assertEqual(unit(1), [1])
        self.assertEqual(unit(2), [1, 0])
        self.assertEqual(unit(5), [1, 0, 0, 0, 0])

    def test_all_sizes(self):
        for size in NUMBERS:
            self.assertEqual(unit(size), unit_to(size))

    def test_below_one_is_refused(self):
        for size in BELOW_ONE:
            assert_refused(self, BadNumber, unit, size)


class Turned(unittest.TestCase):
    def test_written_out(self):
        self.assertEqual(turned([1, 1, 1, 1, 1, 1]), [1, -1, -1, 0, -1, 1])
        self.assertEqual(turned([1, 2, 3, 4]), [1, -2, -3, 0])
        self.assertEqual(turned([-1, 2, 3, 4, 5, 6]), [-1, -2, -3, -8, -5, -18])
        self.assertEqual(turned([1, 3, 0, 0]), [1, -3, 0, 9])

    def test_one_entry(self):
        self.assertEqual(turned([1]), [1])
        self.assertEqual(turned([-1]), [-1])

    def test_hundred_figures(self):
        for entry in HUGE:
            self.assertEqual(turned([1, entry, 0, 0]), [1, -entry, 0, entry * entry])
            self.assertEqual(turned([-1, entry, 0, 0]), [-1, -entry, 0, -entry * entry])

    def test_product_is_the_unit_table(self):
        for table in turnable_samples():
            answer = turned(table)
            self.assertEqual(product_table(table, answer), unit_to(len(table)))
            self.assertEqual(product(answer, table), unit(len(table)))

    def test_turned_twice(self):
        for table in turnable_samples():
            self.assertEqual(turned(turned(table)), table)

    def test_ones_and_signs(self):
        for size in (1, 2, 60, 1000, LAST):
            self.assertEqual(turned(ones_to(size)), signs_to(size))
            self.assertEqual(turned(signs_to(size)), ones_to(size))
            self.assertEqual(turned(unit_to(size)), unit_to(size))

    def test_small_tables(self):
        for table in small_tables():
            if table[0] in (1, -1):
                self.assertEqual(product_table(table, turned(table)), unit_to(len(table)))
            else:
                assert_refused(self, NoTurn, turned, table)

    def test_other_entries_at_one_are_refused(self):
        for entry in (0, 2, -2, 3, -3, 10, -11, 360) + HUGE:
            for rest in ([], [1], [1, 1, 1], [0, 0], [-1, 1, -1]):
                assert_refused(self, NoTurn, turned, [entry] + rest)


class EmptyTables(unittest.TestCase):
    def test_refused(self):
        for function in (summed, taken_back, turned):
            assert_refused(self, BadTable, function, [])


if __name__ == "__main__":
    unittest.main()
