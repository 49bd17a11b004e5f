"""Whole numbers: divisors, lists in lowest numbers, and what weights and numbers make of columns."""


# A remainder bears the sign of what divided it, so the last number may still be below 0.
def divisor(one, other):
    while other != 0:
        rest = one % other
        one = other
        other = rest
    return abs(one)


def lowest(numbers):
    common = 0
    for number in numbers:
        common = divisor(common, number)
    if common == 0:
        return list(numbers)
    return [number // common for number in numbers]


def weigh(weights, column):
    return sum([weight * number for weight, number in zip(weights, column)])


def gather(numbers, columns):
    return [weigh(numbers, [column[row] for column in columns]) for row in range(len(columns[0]))]
