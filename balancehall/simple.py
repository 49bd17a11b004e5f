"""The simple balances of columns: those above 0 at so few places that no other one makes do with fewer of them."""

from balancehall.kernel import kernel


def choices(many):
    told = [[]]
    for place in range(many):
        told = told + [chosen + [place] for chosen in told]
    return told


# Numbers above 0 at just the chosen places are a simple balance where they are the one way in which these columns can
# be levelled: were there two, one less some of the other would be a balance with a nought more.
def balance_of(columns, chosen):
    found = kernel([columns[place] for place in chosen])
    if len(found.free) != 1 or min(found.numbers[0]) <= 0:
        return None
    balance = [0] * len(columns)
    for place, number in zip(chosen, found.numbers[0]):
        balance[place] = number
    return balance


def simple(columns):
    told = [balance_of(columns, chosen) for chosen in choices(len(columns))]
    return sorted([balance for balance in told if balance is not None])
