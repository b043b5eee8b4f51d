"""Tables that are told by their entries at the powers of single primes."""

from partbook.numbers import prime_parts
from partbook.tables import check_table


def goes_by_primes(table):
    # Just one table goes by primes and has these entries at the powers of single primes (point 10),
    # so a table goes by primes where it is that one.
    return table == by_primes(table)


def by_primes(table):
    check_table(table)
    return [entry_by_primes(table, number) for number in range(1, len(table) + 1)]


def entry_by_primes(table, number):
    answer = 1
    for prime, times in prime_parts(number):
        answer = answer * table[power(prime, times) - 1]
    return answer


def power(prime, times):
    answer = 1
    for each in range(times):
        answer = answer * prime
    return answer
