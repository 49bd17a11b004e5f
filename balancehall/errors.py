"""The refusals: each of its own class, all under HallError and none under another one."""


class HallError(ValueError):
    pass


class TooLong(HallError):
    def __init__(self, many):
        HallError.__init__(self, f"the text is too long to be read: {many} signs")
        self.many = many


class NoFormula(HallError):
    def __init__(self, place):
        HallError.__init__(self, f"no formula, by place {place} of the text")
        self.place = place


class NoChange(HallError):
    def __init__(self, place):
        HallError.__init__(self, f"no change, by place {place} of the text")
        self.place = place


class TooMany(HallError):
    def __init__(self, many):
        HallError.__init__(self, f"too many: {many}")
        self.many = many


class NoSplit(HallError):
    def __init__(self):
        HallError.__init__(self, "the numbers are no balance and can't be split")


class NoBalance(HallError):
    def __init__(self, weights):
        HallError.__init__(self, "no balance uses all formulas of the change")
        # The one who refused may go on with its own dict, so a copy is kept.
        self.weights = dict(weights)


class Unbalanced(HallError):
    def __init__(self, kind, left, right):
        HallError.__init__(self, f"the change is not even: {kind} is {left} on the left, {right} on the right")
        self.kind = kind
        self.left = left
        self.right = right


class Short(HallError):
    def __init__(self, step, turn, formula, lack):
        HallError.__init__(self, f"step {step}, turn {turn}: of {formula} there lacks {lack}")
        self.step = step
        self.turn = turn
        self.formula = formula
        self.lack = lack


class NoName(HallError):
    def __init__(self, name):
        HallError.__init__(self, f"no change stands by the name {name}")
        self.name = name


class NoRow(HallError):
    def __init__(self):
        HallError.__init__(self, "the row has none of the forms that are answered")
