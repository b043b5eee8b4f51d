"""The tables of the signs and of the strange numbers, and tables gathered over all numbers up to one."""

from partbook.numbers import check_number, sign
from partbook.tables import check_table, taken_back


def signs(size):
    check_number(size)
    return [sign(number) for number in range(1, size + 1)]


def strange(size):
    check_number(size)
    # Its sum table is 1, 2, 3 and so on, and that one is the sum table of no other table.
    return taken_back(list(range(1, size + 1)))


def gathered(table):
    check_table(table)
    return [gathered_entry(table, number) for number in range(1, len(table) + 1)]


def gathered_entry(table, number):
    return sum([table[number // k - 1] for k in range(1, number + 1)])


def ungathered(table):
    check_table(table)
    # The signs are made once: each of them is needed at every number from its own on.
    known = signs(len(table))
    return [ungathered_entry(table, known, number) for number in range(1, len(table) + 1)]


def ungathered_entry(table, known, number):
    return sum([known[k - 1] * table[number // k - 1] for k in range(1, number + 1)])
