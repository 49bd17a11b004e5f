"""Goals: what changes gain, which sums over formulas they keep, and how a goal is come to or why it never is."""

from balancehall.changes import side_counts
from balancehall.kernel import kernel
from balancehall.settled import settled
from balancehall.simple import simple


def gains(change):
    more = side_counts(change.rights)
    taken = side_counts(change.lefts)
    for text in taken:
        more[text] = more.get(text, 0) - taken[text]
    return dict([(text, more[text]) for text in more if more[text] != 0])


def formulas_of(changes):
    found = {}
    for change in changes:
        found.update(side_counts(change.lefts + change.rights))
    return sorted(found)


def kept(changes):
    formulas = formulas_of(changes)
    gained = [gains(change) for change in changes]
    columns = [[each.get(text, 0) for each in gained] for text in formulas]
    return [dict(zip(formulas, numbers)) for numbers in kernel(columns).numbers]


class Outlook:
    def __init__(self, times, numbers, weights):
        self.times = times
        self.numbers = list(numbers)
        self.weights = dict(weights)


# The last column is what the stocks have more than the goal. Numbers that level the columns make up for it by gains, so
# many times as its own number tells. Where no balance uses it, the weights that settle the columns are those asked for.
def outlook(start, goal, changes):
    formulas = sorted(set(list(start) + list(goal) + formulas_of(changes)))
    gained = [gains(change) for change in changes]
    columns = [[each.get(text, 0) for text in formulas] for each in gained]
    columns.append([start.get(text, 0) - goal.get(text, 0) for text in formulas])
    ways = [balance for balance in simple(columns) if balance[-1] > 0]
    if ways:
        return Outlook(ways[0][-1], ways[0][:-1], {})
    return Outlook(0, [], dict(zip(formulas, settled(columns)[1])))
