"""Points 3 and 4, and point 1 as far as it speaks of numbers."""

import unittest

from partbook.errors import BadNumber
from partbook.numbers import parts, prime_parts, sign
from plainly import (
    BELOW_ONE, LAST, NUMBERS, PRIMES, assert_refused, parts_by_trying, prime_parts_by_trying, sign_by_trying,
)

BEYOND = (1009, 1024, 1260, 2310, 2401, 5040, 9973, 10000, 30030)


def parts_by_multiples(last):
    found = {number: [] for number in range(1, last + 1)}
    for part in range(1, last + 1):
        for number in range(part, last + 1, part):
            found[number].append(part)
    return found


class Parts(unittest.TestCase):
    def test_written_out(self):
        expected = {
            1: [1],
            2: [1, 2],
            3: [1, 3],
            4: [1, 2, 4],
            6: [1, 2, 3, 6],
            7: [1, 7],
            9: [1, 3, 9],
            12: [1, 2, 3, 4, 6, 12],
            49: [1, 7, 49],
            64: [1, 2, 4, 8, 16, 32, 64],
            97: [1, 97],
            360: [1, 2, 3, 4, 5, 6, 8, 9, 10, 12, 15, 18,
                  20, 24, 30, 36, 40, 45, 60, 72, 90, 120, 180, 360],
            961: [1, 31, 961],
            997: [1, 997],
            1000: [1, 2, 4, 5, 8, 10, 20, 25, 40, 50, 100, 125, 200, 250, 500, 1000],
        }
        for number, answer in expected.items():
            with self.subTest(number=number):
                self.assertEqual(parts(number), answer)

    def test_against_trying(self):
        for number in NUMBERS:
            self.assertEqual(parts(number), parts_by_trying(number), number)

    def test_against_multiples(self):
        for number, answer in parts_by_multiples(LAST).items():
            self.assertEqual(parts(number), answer, number)

    def test_each_goes_in_and_they_rise(self):
        for number in NUMBERS:
            answer = parts(number)
            self.assertTrue(all(number % part == 0 for part in answer), number)
            self.assertTrue(all(low < high for low, high in zip(answer, answer[1:])), number)
            self.assertEqual((answer[0], answer[-1]), (1, number))

    def test_primes_and_their_squares(self):
        for prime in PRIMES:
            self.assertEqual(parts(prime), [1, prime])
            if prime < 40:
                self.assertEqual(parts(prime * prime), [1, prime, prime * prime])

    def test_many_parts(self):
        for number, count in ((720, 30), (840, 32), (960, 28), (1260, 36), (5040, 60)):
            self.assertEqual(len(parts(number)), count, number)

    def test_beyond_a_thousand(self):
        for number in BEYOND:
            self.assertEqual(parts(number), parts_by_trying(number), number)

    def test_kinds(self):
        for number in (1, 2, 360, 1000):
            answer = parts(number)
            self.assertIs(type(answer), list)
            self.assertTrue(all(type(part) is int for part in answer))

    def test_an_answer_is_the_callers_own(self):
        parts(12).append(13)
        self.assertEqual(parts(12), [1, 2, 3, 4, 6, 12])


class PrimeParts(unittest.TestCase):
    def test_written_out(self):
        expected = {
            1: [],
            2: [(2, 1)],
            4: [(2, 2)],
            6: [(2, 1), (3, 1)],
            8: [(2, 3)],
            9: [(3, 2)],
            30: [(2, 1), (3, 1), (5, 1)],
            97: [(97, 1)],
            360: [(2, 3), (3, 2), (5, 1)],
            512: [(2, 9)],
            961: [(31, 2)],
            994: [(2, 1), (7, 1), (71, 1)],
            997: [(997, 1)],
            1000: [(2, 3), (5, 3)],
        }
        for number, answer in expected.items():
            with self.subTest(number=number):
                self.assertEqual(prime_parts(number), answer)

    def test_against_trying(self):
        for number in NUMBERS:
            self.assertEqual(prime_parts(number), prime_parts_by_trying(number), number)

    def test_primes_rise_and_make_the_number(self):
        for number in list(NUMBERS) + list(BEYOND):
            answer = prime_parts(number)
            primes = [prime for prime, times in answer]
            self.assertTrue(all(low < high for low, high in zip(primes, primes[1:])), number)
            made = 1
            for prime, times in answer:
                self.assertEqual(len(parts_by_trying(prime)), 2, number)
                self.assertGreaterEqual(times, 1, number)
                made *= prime ** times
            self.assertEqual(made, number)

    def test_beyond_a_thousand(self):
        self.assertEqual(prime_parts(1009), [(1009, 1)])
        self.assertEqual(prime_parts(1024), [(2, 10)])
        self.assertEqual(prime_parts(2401), [(7, 4)])
        self.assertEqual(prime_parts(30030), [(2, 1), (3, 1), (5, 1), (7, 1), (11, 1), (13, 1)])

    def test_kinds(self):
        for number in (1, 2, 360, 1000):
            answer = prime_parts(number)
            self.assertIs(type(answer), list)
            for pair in answer:
                self.assertIs(type(pair), tuple)
                self.assertEqual([type(each) for each in pair], [int, int])

    def test_an_answer_is_the_callers_own(self):
        prime_parts(12).append((5, 1))
        self.assertEqual(prime_parts(12), [(2, 2), (3, 1)])


class Sign(unittest.TestCase):
    def test_written_out(self):
        expected = [1, -1, -1, 0, -1, 1, -1, 0, 0, 1, -1, 0, -1, 1, 1, 0, -1, 0, -1, 0,
                    1, 1, -1, 0, 0, 1, 0, 0, -1, -1]
        self.assertEqual([sign(number) for number in range(1, 31)], expected)

    def test_one_is_a_product_of_none(self):
        self.assertEqual(sign(1), 1)

    def test_a_prime_taken_more_than_twice(self):
        for number in (8, 27, 125, 216, 360, 729, 1000):
            self.assertEqual(sign(number), 0, number)

    def test_three_and_four_primes(self):
        for number in (30, 42, 66, 994):
            self.assertEqual(sign(number), -1, number)
        for number in (210, 330, 858, 966):
            self.assertEqual(sign(number), 1, number)

    def test_only_the_last_prime_taken_twice(self):
        for number in (18, 50, 75, 242, 578, 722):
            self.assertEqual(sign(number), 0, number)

    def test_against_trying(self):
        for number in NUMBERS:
            self.assertEqual(sign(number), sign_by_trying(number), number)

    def test_signs_of_all_parts_sum_to_nought_but_for_one(self):
        for number in NUMBERS:
            total = sum(sign(part) for part in parts_by_trying(number))
            self.assertEqual(total, 1 if number == 1 else 0, number)

    def test_beyond_a_thousand(self):
        self.assertEqual([sign(number) for number in BEYOND], [-1, 0, 0, -1, 0, 0, -1, 0, 1])

    def test_kind(self):
        for number in (1, 2, 4, 6):
            self.assertIs(type(sign(number)), int)


class Refusals(unittest.TestCase):
    def test_below_one(self):
        for function in (parts, prime_parts, sign):
            for number in BELOW_ONE:
                assert_refused(self, BadNumber, function, number)

    def test_one_is_not_refused(self):
        self.assertEqual((parts(1), prime_parts(1), sign(1)), ([1], [], 1))


if __name__ == "__main__":
    unittest.main()
