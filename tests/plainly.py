"""What the points say, worked out plainly and without the program, and tables to try it on."""

import functools
import random

# Somewhat beyond the thousand of point 1.
LAST = 1100
NUMBERS = range(1, LAST + 1)
# The last one has more figures than Python writes as a text.
BELOW_ONE = (0, -1, -2, -4, -6, -7, -12, -30, -360, -1000, -(10 ** 100), -(10 ** 5000))


def parts_by_trying(number):
    return [part for part in range(1, number + 1) if number % part == 0]


PARTS = {number: parts_by_trying(number) for number in NUMBERS}
PRIMES = [number for number in NUMBERS if len(PARTS[number]) == 2]


@functools.cache
def prime_parts_by_trying(number):
    pairs = []
    for prime in PRIMES:
        times = 0
        while number % prime ** (times + 1) == 0:
            times += 1
        if times:
            pairs.append((prime, times))
    return pairs


def sign_by_trying(number):
    if any(number % (prime * prime) == 0 for prime in PRIMES):
        return 0
    count = sum(1 for prime in PRIMES if number % prime == 0)
    return 1 if count % 2 == 0 else -1


SIGNS = [sign_by_trying(number) for number in NUMBERS]


def signs_to(size):
    return SIGNS[:size]


def unit_to(size):
    return [1 if number == 1 else 0 for number in range(1, size + 1)]


def ones_to(size):
    return [1 for number in range(1, size + 1)]


def strange_to_each_other(one, two):
    return set(PARTS[one]) & set(PARTS[two]) == {1}


def strange_to(size):
    return [
        sum(1 for other in range(1, number + 1) if strange_to_each_other(other, number))
        for number in range(1, size + 1)
    ]


def sum_table(table):
    size = len(table)
    return [sum(table[part - 1] for part in PARTS[number]) for number in range(1, size + 1)]


def product_table(one, two):
    size = len(one)
    answer = [0] * size
    for left in range(1, size + 1):
        for right in range(1, size + 1):
            if left * right > size:
                break
            answer[left * right - 1] += one[left - 1] * two[right - 1]
    return answer


def gathered_table(table):
    # At how many k the number divided by k, the rest left away, is m: those with m * k <= number < (m + 1) * k.
    answer = []
    for number in range(1, len(table) + 1):
        entry = 0
        for m in range(1, number + 1):
            entry += table[m - 1] * (number // m - number // (m + 1))
        answer.append(entry)
    return answer


def ungathered_table(table):
    # Found entry by entry: k = 1 brings in the entry that is looked for, all other k smaller ones.
    answer = []
    for number in range(1, len(table) + 1):
        entry = table[number - 1]
        for k in range(2, number + 1):
            entry -= answer[number // k - 1]
        answer.append(entry)
    return answer


@functools.cache
def pairs_without_common_part(size):
    return [
        (one, two)
        for one in range(1, size + 1)
        for two in range(1, size // one + 1)
        if strange_to_each_other(one, two)
    ]


def told_by_all_pairs(table):
    if table[0] != 1:
        return False
    return all(
        table[one * two - 1] == table[one - 1] * table[two - 1]
        for one, two in pairs_without_common_part(len(table))
    )


def is_power_of_single_prime(number):
    return len(prime_parts_by_trying(number)) == 1


def filled_by_primes(table):
    answer = []
    for number in range(1, len(table) + 1):
        entry = 1
        for prime, times in prime_parts_by_trying(number):
            entry *= table[prime ** times - 1]
        answer.append(entry)
    return answer


def sample(size, figures, seed):
    source = random.Random(seed)
    top = 10 ** figures - 1
    return [source.randint(-top, top) for number in range(size)]


def samples():
    tables = [[0], [1], [-1], [2], [-7], [10 ** 100 - 1], [1 - 10 ** 100]]
    for size in (1, 2, 3, 4, 6, 12, 13, 30, 48, 60, 100, 210, 360, 500):
        for figures in (1, 3, 100):
            tables.append(sample(size, figures, size * 1000 + figures))
        tables.append([0] * size)
        tables.append(ones_to(size))
        tables.append([10 ** 100 - 1] * size)
        tables.append([1 - 10 ** 100] * size)
        tables.append(list(range(1, size + 1)))
        tables.append([-number for number in range(1, size + 1)])
    tables.append(sample(1000, 100, 7))
    tables.append(sample(LAST, 101, 8))
    return tables


def turnable_samples():
    tables = []
    for table in samples():
        tables.append([1] + table[1:])
        tables.append([-1] + table[1:])
    return tables


def small_tables():
    # All tables of at most four entries from -2 to 2.
    tables = [[]]
    found = []
    for size in range(1, 5):
        tables = [table + [entry] for table in tables for entry in range(-2, 3)]
        found.extend(tables)
    return found


def by_primes_samples():
    return [filled_by_primes(table) for table in samples() + small_tables()]


def assert_refused(case, refusal, function, *values):
    with case.assertRaises(ValueError) as caught:
        function(*values)
    case.assertIs(type(caught.exception), refusal)
