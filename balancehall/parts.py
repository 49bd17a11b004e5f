"""The parts of which formulas are made: atoms, groups of parts, and pieces."""

from balancehall.marks import GROUP_BEGIN, GROUP_END, count_shown


def parts_shown(parts):
    return "".join([part.shown() for part in parts])


def parts_counts(parts, times):
    total = {}
    for part in parts:
        inner = part.counts()
        for kind in inner:
            total[kind] = total.get(kind, 0) + inner[kind] * times
    return total


# The weights are asked by the kinds that are there, so what `+` weighs never comes in.
def counts_weight(counts, weights):
    total = 0
    for kind in counts:
        total += counts[kind] * weights.get(kind, 0)
    return total


class Part:
    def weight(self, weights):
        return counts_weight(self.counts(), weights)


class Atom(Part):
    def __init__(self, kind, count=1):
        self.kind = kind
        self.count = count

    def shown(self):
        return self.kind + count_shown(self.count)

    def counts(self):
        return {self.kind: self.count}


class Group(Part):
    def __init__(self, parts, count=1):
        self.parts = list(parts)
        self.count = count

    def shown(self):
        return GROUP_BEGIN + parts_shown(self.parts) + GROUP_END + count_shown(self.count)

    def counts(self):
        return parts_counts(self.parts, self.count)


class Piece(Part):
    def __init__(self, parts, count=1):
        self.parts = list(parts)
        self.count = count

    # A piece's count stands ahead: behind, it would be its last part's.
    def shown(self):
        return count_shown(self.count) + parts_shown(self.parts)

    def counts(self):
        return parts_counts(self.parts, self.count)
