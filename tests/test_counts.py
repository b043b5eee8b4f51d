"""Points 4, 11 and 12 for whole tables: signs, strange numbers, and gathered tables."""

import unittest

from partbook.counts import gathered, signs, strange, ungathered
from partbook.errors import BadNumber, BadTable
from partbook.tables import summed
from plainly import (
    BELOW_ONE, LAST, assert_refused, gathered_table, ones_to, samples, signs_to, small_tables, strange_to,
    unit_to, ungathered_table,
)

HUGE = (10 ** 99, 10 ** 100 - 1, 1 - 10 ** 100, 10 ** 120)


class Signs(unittest.TestCase):
    def test_written_out(self):
        self.assertEqual(signs(1), [1])
        self.assertEqual(signs(12), [1, -1, -1, 0, -1, 1, -1, 0, 0, 1, -1, 0])
        self.assertEqual(signs(30)[12:], [-1, 1, 1, 0, -1, 0, -1, 0, 1, 1, -1, 0, 0, 1, 0, 0, -1, -1])

    def test_against_trying(self):
        for size in list(range(1, 130)) + [360, 500, 999, 1000, LAST]:
            self.assertEqual(signs(size), signs_to(size))

    def test_sum_table_is_the_unit_table(self):
        for size in (1, 2, 360, 1000, LAST):
            self.assertEqual(summed(signs(size)), unit_to(size))

    def test_below_one_is_refused(self):
        for size in BELOW_ONE:
            assert_refused(self, BadNumber, signs, size)


class Strange(unittest.TestCase):
    def test_written_out(self):
        self.assertEqual(strange(1), [1])
        self.assertEqual(strange(2), [1, 1])
        self.assertEqual(strange(20), [1, 1, 2, 2, 4, 2, 6, 4, 6, 4, 10, 4, 12, 6, 8, 8, 16, 6, 18, 8])
        self.assertEqual([strange(1000)[number - 1] for number in (360, 500, 997, 1000)], [96, 200, 996, 400])

    def test_against_counts_by_trying(self):
        counts = strange_to(LAST)
        for size in list(range(1, 130)) + [360, 500, 999, 1000, LAST]:
            self.assertEqual(strange(size), counts[:size])

    def test_sum_table_is_one_two_three(self):
        for size in list(range(1, 130)) + [1000, LAST]:
            self.assertEqual(summed(strange(size)), list(range(1, size + 1)))

    def test_below_one_is_refused(self):
        for size in BELOW_ONE:
            assert_refused(self, BadNumber, strange, size)


class Gathered(unittest.TestCase):
    def test_written_out(self):
        self.assertEqual(gathered([1, 0, 0, 0, 0, 0]), [1, 1, 2, 2, 3, 3])
        self.assertEqual(gathered([1, 1, 1, 1]), [1, 2, 3, 4])
        self.assertEqual(gathered([1, 2, 3, 4, 5, 6]), [1, 3, 5, 8, 10, 14])
        # At 5: the entries at 5, 2, 1, 1 and 1.
        self.assertEqual(gathered([1, 10, 100, 1000, 10000]), [1, 11, 102, 1012, 10013])
        self.assertEqual(gathered([-2, 3, 0]), [-2, 1, -4])

    def test_one_entry(self):
        for entry in (0, 1, -1, 2, -360) + HUGE:
            self.assertEqual(gathered([entry]), [entry])

    def test_hundred_figures(self):
        for entry in HUGE:
            self.assertEqual(gathered([entry, -1, entry]), [entry, entry - 1, 3 * entry])

    def test_against_the_sum(self):
        for table in samples() + small_tables():
            self.assertEqual(gathered(table), gathered_table(table))

    def test_ones_are_gathered_to_one_two_three(self):
        for size in (1, 2, 100, 1000, LAST):
            self.assertEqual(gathered(ones_to(size)), list(range(1, size + 1)))


class Ungathered(unittest.TestCase):
    def test_written_out(self):
        self.assertEqual(ungathered([1, 1, 2, 2, 3, 3]), [1, 0, 0, 0, 0, 0])
        self.assertEqual(ungathered([1, 2, 3, 4]), [1, 1, 1, 1])
        self.assertEqual(ungathered([1, 3, 5, 8, 10, 14]), [1, 2, 3, 4, 5, 6])
        self.assertEqual(ungathered([1, 1, 1, 1, 1, 1]), [1, 0, -1, -1, -2, -1])
        self.assertEqual(ungathered([-2, 1, -4]), [-2, 3, 0])

    def test_one_entry(self):
        for entry in (0, 1, -1, 2, -360) + HUGE:
            self.assertEqual(ungathered([entry]), [entry])

    def test_hundred_figures(self):
        for entry in HUGE:
            self.assertEqual(ungathered([entry, entry - 1, 3 * entry]), [entry, -1, entry])

    def test_against_the_sum(self):
        for table in samples() + small_tables():
            known = signs_to(len(table))
            answer = []
            for number in range(1, len(table) + 1):
                answer.append(sum(known[k - 1] * table[number // k - 1] for k in range(1, number + 1)))
            self.assertEqual(ungathered(table), answer)

    def test_against_the_one_table_that_is_gathered_to_it(self):
        for table in samples() + small_tables():
            self.assertEqual(ungathered(table), ungathered_table(table))

    def test_there_and_back(self):
        for table in samples() + small_tables():
            self.assertEqual(ungathered(gathered(table)), table)

    def test_back_and_there(self):
        for table in samples() + small_tables():
            self.assertEqual(gathered(ungathered(table)), table)


class EmptyTables(unittest.TestCase):
    def test_refused(self):
        for function in (gathered, ungathered):
            assert_refused(self, BadTable, function, [])


if __name__ == "__main__":
    unittest.main()
