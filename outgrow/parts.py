"""Parts: pairs (over, under) of numbers in lowest terms; and small sums over whole numbers."""

NOUGHT = (0, 1)


def sign_of(number):
    """-1, 0 or 1."""
    if number == 0:
        return 0
    return 1 if number > 0 else -1


def power(base, exponent):
    total = 1
    for turn in range(exponent):
        total *= base
    return total


def greatest_divisor(one, other):
    while other != 0:
        one, other = other, one % other
    return abs(one)


def least_multiple(numbers):
    """The least number above nought that all of these, each 1 or more, divide."""
    total = 1
    for number in numbers:
        total *= number // greatest_divisor(total, number)
    return total


def part_of(over, under):
    """The part of two numbers in lowest terms, under 1 or more."""
    shared = greatest_divisor(over, under)
    return (over // shared, under // shared)


def part_sum(one, other):
    return part_of(one[0] * other[1] + other[0] * one[1], one[1] * other[1])


def part_less(one, other):
    return part_sum(one, (-other[0], other[1]))
