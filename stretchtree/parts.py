"""The part of some numbers: a tuple (total, least, greatest, reach)."""

TOTAL = 0
LEAST = 1
GREATEST = 2
REACH = 3


def part_of(numbers):
    """The part of some numbers, one at least."""
    part = part_of_one(numbers[0])
    for number in numbers[1:]:
        part = joined(part, part_of_one(number))
    return part


def part_of_one(number):
    """The part of one number alone."""
    return (number, number, number, number)


def joined(one, other):
    """The part of some numbers with others behind them, from the parts of both."""
    return (
        one[TOTAL] + other[TOTAL],
        min(one[LEAST], other[LEAST]),
        max(one[GREATEST], other[GREATEST]),
        # A running sum that ends among the others has all of the ones in it.
        max(one[REACH], one[TOTAL] + other[REACH]),
    )
