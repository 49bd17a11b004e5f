"""What is told of columns looked at by reckoning, with fractions and nothing of the program's own."""

from fractions import Fraction
from functools import reduce
from math import gcd


def common(numbers):
    return reduce(gcd, numbers, 0)


def levelled(numbers, columns):
    for row in range(len(columns[0])):
        if sum(number * column[row] for number, column in zip(numbers, columns)) != 0:
            return False
    return True


def weight(weights, column):
    return sum(one * other for one, other in zip(weights, column))


def bound_places(columns):
    """The places of the columns that are no sum of those ahead."""
    reduced = []
    places = []
    for place, column in enumerate(columns):
        rest = [Fraction(number) for number in column]
        for row, known in reduced:
            share = rest[row]
            rest = [one - share * other for one, other in zip(rest, known)]
        row = next((row for row, number in enumerate(rest) if number != 0), None)
        if row is not None:
            reduced.append((row, [number / rest[row] for number in rest]))
            places.append(place)
    return places


def sums(chance, bases, many, size):
    """Columns that are sums of the bases, by whole numbers up to the size."""
    told = []
    for each in range(many):
        shares = [chance.randint(-size, size) for base in bases]
        told.append([sum(share * base[row] for share, base in zip(shares, bases)) for row in range(len(bases[0]))])
    return told


def some_columns(chance, many, rows, size):
    return [[chance.randint(-size, size) for row in range(rows)] for each in range(many)]


def whole(told):
    """True where there is nothing but lists and whole numbers."""
    if type(told) is list:
        return all(whole(each) for each in told)
    return type(told) is int
