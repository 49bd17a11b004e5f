"""Stocks: a store of formulas by their texts, turned by even changes."""

from balancehall.changes import read_change, side_counts
from balancehall.errors import Short, Unbalanced
from balancehall.formulas import read_formula
from balancehall.goals import gains


def read_even(text):
    change = read_change(text)
    lost = change.lost()
    if lost:
        raise Unbalanced(lost[0][0], lost[0][1], lost[0][2])
    return change


# How many turns, one behind the other, find enough of a formula; None where all do.
def turns_of(amount, taken, gain):
    if amount < taken:
        return 0
    if gain >= 0:
        return None
    return (amount - taken) // -gain + 1


def most_turns(change, amounts):
    taken = side_counts(change.lefts)
    gained = gains(change)
    told = [turns_of(amounts.get(text, 0), taken[text], gained.get(text, 0)) for text in taken]
    return min([turns for turns in told if turns is not None], default=None)


# It isn't looked at whether so many turns go.
def turned(change, times, amounts):
    gained = gains(change)
    told = dict(amounts)
    for text in gained:
        told[text] = told.get(text, 0) + times * gained[text]
    return told


def refuse_short(change, times, amounts, step):
    turns = most_turns(change, amounts)
    if turns is None or times <= turns:
        return
    there = turned(change, turns, amounts)
    taken = side_counts(change.lefts)
    for text in taken:
        lack = taken[text] - there.get(text, 0)
        if lack > 0:
            raise Short(step, turns + 1, text, lack)


class Store:
    def __init__(self, amounts=None):
        self.amounts = {}
        self.gone = []
        if amounts is not None:
            for text in amounts:
                self.put(text, amounts[text])

    # The text is read for its refusals alone: a formula has just one text, so it is known by that.
    def have(self, text):
        read_formula(text)
        return self.amounts.get(text, 0)

    def put(self, text, many):
        self.amounts[text] = self.have(text) + many

    def go(self, text, times=1):
        self.go_all([(text, times)])

    # The steps turn amounts apart from the store's own, so that a later one's refusal leaves these as they were.
    def go_all(self, rows):
        changes = [read_even(text) for text, times in rows]
        amounts = self.amounts
        for step, change in enumerate(changes):
            times = rows[step][1]
            refuse_short(change, times, amounts, step)
            amounts = turned(change, times, amounts)
        self.amounts = amounts
        self.gone.extend(rows)

    def most(self, text):
        return most_turns(read_even(text), self.amounts)

    # By weights of this kind alone a formula weighs how many of it there are (by `+` its charge).
    def total(self, kind):
        return sum([many * read_formula(text).weight({kind: 1}) for text, many in self.amounts.items()])

    def stocks(self):
        return dict([(text, many) for text, many in self.amounts.items() if many > 0])

    def went(self):
        return [(text, times) for text, times in self.gone]
