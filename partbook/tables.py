"""Sums over all parts of a number that lead from table to table, and tables multiplied by parts."""

from partbook.errors import BadSize, BadTable, NoTurn
from partbook.numbers import check_number, parts, sign


def check_table(table):
    if len(table) == 0:
        raise BadTable("a table has one entry at least")


def product(one, two):
    # Both are looked at for entries ahead of their sizes: BadTable goes first.
    check_table(one)
    check_table(two)
    if len(one) != len(two):
        raise BadSize("the two tables are of different sizes")
    return [product_entry(one, two, number) for number in range(1, len(one) + 1)]


def product_entry(one, two, number):
    return sum([one[part - 1] * two[number // part - 1] for part in parts(number)])


def summed(table):
    check_table(table)
    return [summed_entry(table, number) for number in range(1, len(table) + 1)]


def summed_entry(table, number):
    return sum([table[part - 1] for part in parts(number)])


def taken_back(table):
    check_table(table)
    return [taken_back_entry(table, number) for number in range(1, len(table) + 1)]


def taken_back_entry(table, number):
    return sum([sign(part) * table[number // part - 1] for part in parts(number)])


def unit(size):
    check_number(size)
    return [1] + [0] * (size - 1)


def turned(table):
    check_table(table)
    first = table[0]
    if first != 1 and first != -1:
        raise NoTurn("only a table with 1 or -1 at 1 has a turned table")
    # The entry at 1 and that of the turned table multiply to 1, so 1 goes with 1 and -1 with -1.
    answer = [first]
    for number in range(2, len(table) + 1):
        answer.append(-first * sum_without_one(table, answer, number))
    return answer


def sum_without_one(table, answer, number):
    # Without the part 1, the sum needs the answer's entries below the number alone, which are there by now;
    # the entry at the number itself is then what brings the whole sum to nought.
    return sum([table[part - 1] * answer[number // part - 1] for part in parts(number) if part > 1])
