"""The parts of a number, the primes that it is a product of, and its sign."""

from partbook.errors import BadNumber


def check_number(number):
    if number < 1:
        # The words leave the number out: Python does not write very long ones as a text.
        raise BadNumber("a number or a size is one or more")


def parts(number):
    check_number(number)
    return [part for part in range(1, number + 1) if number % part == 0]


def prime_parts(number):
    check_number(number)
    pairs = []
    rest = number
    divisor = 2
    while rest > 1:
        times = 0
        # Smaller primes are gone from the rest already, so only a prime goes into it here.
        while rest % divisor == 0:
            rest = rest // divisor
            times = times + 1
        if times > 0:
            pairs.append((divisor, times))
        divisor = divisor + 1
    return pairs


def sign(number):
    answer = 1
    for prime, times in prime_parts(number):
        if times > 1:
            return 0
        answer = -answer
    return answer
