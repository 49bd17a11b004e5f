"""The kernel of columns: the free ones with numbers that level, the bound ones with weights that tell them apart."""

from balancehall.wholes import lowest, weigh


# By their own weights all bound columns weigh alike, so sums of these weights let them weigh whatever is asked.
class Kernel:
    def __init__(self, free, bound, numbers, weights):
        self.free = list(free)
        self.bound = list(bound)
        self.numbers = list(numbers)
        self.weights = list(weights)


# The bound columns met so far. By its own weights each of them weighs `scale`, which is above 0, and each other one 0.
# So of a column that is a sum of them, these weights tell each one's share, times `scale`.
class Frame:
    def __init__(self):
        self.scale = 1
        self.places = []
        self.bases = []
        self.weights = []

    def shares(self, column):
        return [weigh(weights, column) for weights in self.weights]

    # What the shares leave of the column in a row, times `scale`.
    def rest(self, column, shares, row):
        return self.scale * column[row] - sum([share * base[row] for share, base in zip(shares, self.bases)])

    # None where nothing is left in any row: then the column is free.
    def row_with_rest(self, column, shares):
        for row in range(len(column)):
            if self.rest(column, shares, row) != 0:
                return row
        return None

    def levelling(self, place, shares, many):
        numbers = [0] * many
        numbers[place] = self.scale
        for base_place, share in zip(self.places, shares):
            numbers[base_place] = -share
        return lowest(numbers)

    # By these weights each base weighs 0, and any column what `rest` tells of it in this row.
    def weights_of_rest(self, row, many):
        told = [0] * many
        told[row] = self.scale
        for base, weights in zip(self.bases, self.weights):
            told = [one - base[row] * other for one, other in zip(told, weights)]
        return told

    def bind(self, place, column, shares, row):
        fresh = self.weights_of_rest(row, len(column))
        if weigh(fresh, column) < 0:
            fresh = [-weight for weight in fresh]
        scale = weigh(fresh, column)
        self.weights = [self.freed(weights, share, fresh, scale) for weights, share in zip(self.weights, shares)]
        self.weights.append(fresh)
        self.places.append(place)
        self.bases.append(column)
        self.scale = scale

    # Weights of an earlier base, by which the new one weighs 0 and that base the new scale. The numbers that come of it
    # are, but for the sign, minors of the bases, so the division by the old scale is exact.
    def freed(self, weights, share, fresh, scale):
        return [(scale * one - share * other) // self.scale for one, other in zip(weights, fresh)]


def kernel(columns):
    frame = Frame()
    free = []
    numbers = []
    for place, column in enumerate(columns):
        shares = frame.shares(column)
        row = frame.row_with_rest(column, shares)
        if row is None:
            free.append(place)
            numbers.append(frame.levelling(place, shares, len(columns)))
        else:
            frame.bind(place, column, shares, row)
    return Kernel(free, frame.places, numbers, frame.weights)
