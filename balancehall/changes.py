"""Changes: formulas with counts on a left side and on a right side, and the reading of them from their texts."""

from balancehall.errors import NoChange, NoFormula, TooMany
from balancehall.formulas import Reader, refuse_too_long
from balancehall.marks import PLUS

BLANK = " "
JOINT = " + "
ARROW = " -> "
LONGEST_TERM_COUNT = 12
MOST_TERMS = 8


def term_shown(count, formula):
    if count == 1:
        return formula.shown()
    return str(count) + BLANK + formula.shown()


def side_shown(terms):
    return JOINT.join([term_shown(count, formula) for count, formula in terms])


# The charge goes by `+`, which is no kind's name.
def formula_amounts(formula):
    amounts = formula.counts()
    amounts[PLUS] = formula.charge
    return amounts


def side_amounts(terms):
    total = {}
    for count, formula in terms:
        amounts = formula_amounts(formula)
        for kind in amounts:
            total[kind] = total.get(kind, 0) + count * amounts[kind]
    return total


# By the formulas' texts, in the order in which these come first.
def side_counts(terms):
    total = {}
    for count, formula in terms:
        text = formula.shown()
        total[text] = total.get(text, 0) + count
    return total


def side_columns(terms, kinds, times):
    amounts = [formula_amounts(formula) for count, formula in terms]
    return [[times * each.get(kind, 0) for kind in kinds] for each in amounts]


class Change:
    def __init__(self, lefts, rights):
        self.lefts = list(lefts)
        self.rights = list(rights)

    def shown(self):
        return side_shown(self.lefts) + ARROW + side_shown(self.rights)

    def kinds(self):
        found = {}
        for count, formula in self.lefts + self.rights:
            found.update(formula.counts())
        return sorted(found) + [PLUS]

    def columns(self):
        kinds = self.kinds()
        return side_columns(self.lefts, kinds, 1) + side_columns(self.rights, kinds, -1)

    def lost(self):
        lefts = side_amounts(self.lefts)
        rights = side_amounts(self.rights)
        told = [(kind, lefts.get(kind, 0), rights.get(kind, 0)) for kind in self.kinds()]
        return [each for each in told if each[1] != each[2]]


# Like the reading of formulas, it takes no sign that could not stand there in a change.
class ChangeReader(Reader):
    def read_term(self):
        count = self.read_number(LONGEST_TERM_COUNT)
        if count > 1:
            self.take(BLANK)
        return (count, self.read_whole())

    # The sign behind the blank tells whether a joint or the arrow follows; without the blank both are refused alike.
    def read_lefts(self):
        terms = [self.read_term()]
        while self.text[self.place + 1:self.place + 2] != ARROW[1]:
            self.take_all(JOINT)
            terms.append(self.read_term())
        self.take_all(ARROW)
        return terms

    def read_rights(self):
        terms = [self.read_term()]
        while self.place < len(self.text):
            self.take_all(JOINT)
            terms.append(self.read_term())
        return terms

    def read_sides(self):
        lefts = self.read_lefts()
        return Change(lefts, self.read_rights())


def read_change(text):
    refuse_too_long(text)
    try:
        change = ChangeReader(text).read_sides()
    except NoFormula as e:
        raise NoChange(e.place) from None
    many = len(change.lefts) + len(change.rights)
    if many > MOST_TERMS:
        raise TooMany(many)
    return change
