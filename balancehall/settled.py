"""Columns settled: each is used by a told balance, or by told weights it is seen that no balance uses it."""

from balancehall.kernel import kernel
from balancehall.simple import simple
from balancehall.wholes import lowest


# Each balance is a sum of simple ones, each times some fraction: so this one is above 0 wherever any balance is.
def widest(columns):
    balances = simple(columns)
    return lowest([sum([balance[place] for balance in balances]) for place in range(len(columns))])


# What the columns weigh, by whatever weights, comes to 0 where each is taken times its number in one of the kernel's
# lists; and each list of which this is so is what they weigh by some weights. So these lists are what levels the
# kernel's numbers read place by place, and the widest balance of those is above 0 at each column that can weigh above 0
# while none weighs below 0: at just those that no balance of the columns uses (the lemma of Farkas).
def widest_weights(columns):
    found = kernel(columns)
    hefts = widest([[numbers[place] for numbers in found.numbers] for place in range(len(columns))])
    told = [0] * len(columns[0])
    for place, weights in zip(found.bound, found.weights):
        told = [one + hefts[place] * other for one, other in zip(told, weights)]
    return lowest(told)


def settled(columns):
    return (widest(columns), widest_weights(columns))
