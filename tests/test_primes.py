"""Points 9 and 10: tables that go by primes."""

import itertools
import unittest

from partbook.errors import BadTable
from partbook.primes import by_primes, goes_by_primes
from partbook.tables import product, summed, taken_back, turned
from plainly import (
    LAST, assert_refused, by_primes_samples, filled_by_primes, is_power_of_single_prime, ones_to,
    sample, samples, signs_to, small_tables, strange_to, told_by_all_pairs, unit_to,
)


class GoesByPrimes(unittest.TestCase):
    def test_written_out(self):
        self.assertIs(goes_by_primes([1, 2, 3, 4, 5, 6]), True)
        self.assertIs(goes_by_primes([1, 7, -2, 0, 5, -14]), True)
        self.assertIs(goes_by_primes([1, 7, -2, 0, 5, 14]), False)
        self.assertIs(goes_by_primes([1, 0, 0, 0, 0, 1]), False)

    def test_one_entry(self):
        self.assertIs(goes_by_primes([1]), True)
        for entry in (0, -1, 2, 360, 10 ** 100 - 1, 1 - 10 ** 100):
            self.assertIs(goes_by_primes([entry]), False)

    def test_up_to_four_only_the_entry_at_one_tells(self):
        for table in small_tables():
            self.assertIs(goes_by_primes(table), table[0] == 1)

    def test_entry_at_one_that_is_not_one(self):
        for entry in (0, -1, 2, -2, 10 ** 100):
            for size in (2, 6, 12, 100):
                self.assertIs(goes_by_primes([entry] + ones_to(size)[1:]), False)
                self.assertIs(goes_by_primes([entry] + [0] * (size - 1)), False)
                self.assertIs(goes_by_primes([entry] * size), False)

    def test_well_known_tables(self):
        for size in (1, 2, 6, 12, 100, 1000, LAST):
            for table in (ones_to(size), unit_to(size), signs_to(size), list(range(1, size + 1))):
                self.assertIs(goes_by_primes(table), True)
            self.assertIs(goes_by_primes(list(range(2, size + 2))), False)
        self.assertIs(goes_by_primes(strange_to(500)), True)

    def test_all_small_tables_of_six(self):
        for entries in itertools.product((-1, 0, 1, 2), repeat=6):
            table = list(entries)
            self.assertIs(goes_by_primes(table), told_by_all_pairs(table))

    def test_tables_of_twelve(self):
        # The entries at 6, 10 and 12 beside those of single primes.
        for entries in itertools.product((-1, 0, 2), repeat=6):
            two, three, four, six, ten, twelve = entries
            table = [1, two, three, four, 1, six, 1, 1, 1, ten, 1, twelve]
            self.assertIs(goes_by_primes(table), told_by_all_pairs(table))

    def test_against_all_pairs(self):
        for table in samples():
            self.assertIs(goes_by_primes(table), told_by_all_pairs(table))
        for table in by_primes_samples():
            self.assertIs(goes_by_primes(table), True)

    def test_a_table_changed_at_one_entry(self):
        for figures in (1, 100):
            table = filled_by_primes([7] + sample(119, figures, 5))
            for place in range(120):
                for change in (1, -1):
                    changed = list(table)
                    changed[place] += change
                    self.assertIs(goes_by_primes(changed), told_by_all_pairs(changed), place + 1)

    def test_a_change_where_several_primes_meet_is_always_seen(self):
        table = ones_to(1000)
        for number in range(2, 1001):
            changed = list(table)
            changed[number - 1] = 2
            if not is_power_of_single_prime(number):
                self.assertIs(goes_by_primes(changed), False, number)

    def test_a_change_at_a_power_above_half_the_size_is_none(self):
        for number in (64, 81, 97, 53, 100):
            changed = ones_to(100)
            changed[number - 1] = 5
            self.assertIs(goes_by_primes(changed), is_power_of_single_prime(number), number)


class ByPrimes(unittest.TestCase):
    def test_written_out(self):
        self.assertEqual(by_primes([9, 2, 3, 5, 7, 9, 9, 11, 13, 9, 17, 9]), [1, 2, 3, 5, 7, 6, 9, 11, 13, 14, 17, 15])
        self.assertEqual(by_primes([1, 0, 5, -2, 4, 8]), [1, 0, 5, -2, 4, 0])
        self.assertEqual(by_primes([0, -3, -5, 1, 1, 1]), [1, -3, -5, 1, 1, 15])

    def test_three_hundred_and_sixty(self):
        table = sample(360, 4, 3)
        self.assertEqual(by_primes(table)[359], table[7] * table[8] * table[4])

    def test_one_entry(self):
        for entry in (0, 1, -1, 2, -360, 10 ** 100 - 1):
            self.assertEqual(by_primes([entry]), [1])

    def test_against_trying(self):
        for table in samples() + small_tables():
            self.assertEqual(by_primes(table), filled_by_primes(table))

    def test_one_at_one_and_kept_at_powers(self):
        for table in samples():
            answer = by_primes(table)
            self.assertEqual(len(answer), len(table))
            self.assertEqual(answer[0], 1)
            for number in range(1, len(table) + 1):
                if is_power_of_single_prime(number):
                    self.assertEqual(answer[number - 1], table[number - 1])

    def test_goes_by_primes(self):
        for table in samples() + small_tables():
            self.assertTrue(told_by_all_pairs(by_primes(table)))

    def test_a_table_that_goes_by_primes_stays(self):
        for table in by_primes_samples():
            self.assertEqual(by_primes(table), table)

    def test_hundred_figures(self):
        entry = 10 ** 100 - 1
        self.assertEqual(by_primes([entry] * 210)[209], entry * entry * entry * entry)
        self.assertEqual(by_primes([-entry] * 30)[29], -entry * entry * entry)


class WhatGoesByPrimesToo(unittest.TestCase):
    def assert_goes_by_primes(self, table):
        self.assertIs(goes_by_primes(table), True)
        self.assertTrue(told_by_all_pairs(table))

    def test_product(self):
        for table in by_primes_samples():
            other = filled_by_primes(sample(len(table), 2, 11))
            self.assert_goes_by_primes(product(table, other))

    def test_turned(self):
        for table in by_primes_samples():
            self.assert_goes_by_primes(turned(table))

    def test_summed(self):
        for table in by_primes_samples():
            self.assert_goes_by_primes(summed(table))

    def test_taken_back(self):
        for table in by_primes_samples():
            self.assert_goes_by_primes(taken_back(table))


class EmptyTables(unittest.TestCase):
    def test_refused(self):
        for function in (goes_by_primes, by_primes):
            assert_refused(self, BadTable, function, [])


if __name__ == "__main__":
    unittest.main()
