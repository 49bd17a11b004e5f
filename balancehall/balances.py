"""Changes settled and balanced: by which numbers of its formulas nothing is lost, or by which weights none are such."""

from balancehall.changes import Change
from balancehall.errors import NoBalance
from balancehall.kernel import kernel
from balancehall.settled import settled


class Verdict:
    def __init__(self, balance, weights, independent):
        self.balance = list(balance)
        self.weights = dict(weights)
        self.independent = independent

    def full(self):
        return min(self.balance) > 0


def settle(change):
    columns = change.columns()
    pair = settled(columns)
    return Verdict(pair[0], dict(zip(change.kinds(), pair[1])), len(kernel(columns).free))


def with_counts(terms, numbers):
    return [(number, term[1]) for term, number in zip(terms, numbers)]


def balanced(change):
    verdict = settle(change)
    if not verdict.full():
        raise NoBalance(verdict.weights)
    many = len(change.lefts)
    lefts = with_counts(change.lefts, verdict.balance[:many])
    return Change(lefts, with_counts(change.rights, verdict.balance[many:]))
