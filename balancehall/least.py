"""The least balances of columns, up to a told sum, and balances split into them."""

from balancehall.errors import NoSplit
from balancehall.kernel import kernel
from balancehall.wholes import gather


# Numbers, what they gather, and the first place at which they may still be raised.
class Trial:
    def __init__(self, numbers, gathered, first):
        self.numbers = list(numbers)
        self.gathered = list(gathered)
        self.first = first

    def raised(self, place, column):
        numbers = list(self.numbers)
        numbers[place] += 1
        return Trial(numbers, [one + other for one, other in zip(self.gathered, column)], place)

    # No place ahead of one that was raised is raised later: so all numbers are come to, each in one way alone.
    def all_raised(self, columns):
        return [self.raised(place, columns[place]) for place in range(self.first, len(columns))]

    def is_level(self):
        return not any(self.gathered)


# Each row that is left out is a sum of these ones, each times some fraction: what levels these levels it too.
def rows_enough(columns):
    rows = [[column[row] for column in columns] for row in range(len(columns[0]))]
    chosen = kernel(rows).bound
    return [[column[row] for row in chosen] for column in columns]


def fits(small, great):
    return all([one <= other for one, other in zip(small, great)])


# Trials are raised by one, sum by sum. A balance is raised no further: nothing above it is least.
def least(columns, most):
    few = rows_enough(columns)
    told = []
    trials = [Trial([0] * len(few), [0] * len(few[0]), 0)]
    for size in range(most):
        grown = []
        for trial in trials:
            grown.extend(trial.all_raised(few))
        level = [trial.numbers for trial in grown if trial.is_level()]
        told = told + [numbers for numbers in level if not any([fits(other, numbers) for other in told])]
        trials = [trial for trial in grown if not trial.is_level()]
    return sorted(told)


def is_balance(columns, numbers):
    return min(numbers) >= 0 and not any(gather(numbers, columns))


# How often the small one, which isn't all noughts, can be taken out of the great one.
def times_within(small, great):
    return min([other // one for one, other in zip(small, great) if one > 0])


# Taking out a balance leaves a balance, so nothing but noughts is left when no least one fits any more.
def split(columns, balance):
    if not is_balance(columns, balance):
        raise NoSplit()
    rest = balance
    told = []
    for one in least(columns, sum(balance)):
        times = times_within(one, rest)
        rest = [number - times * taken for number, taken in zip(rest, one)]
        told.append(times)
    return told
