"""What is told of texts of formulas and changes, reckoned slowly from the texts, with nothing of the program's own."""

import re


def amounts_in(text):
    """A dict from each kind in a formula's text, and from `+`, to how many there are."""
    body, mark, charge = text.partition("^")
    told = {"+": int(charge[:-1] or "1") * (-1 if charge[-1] == "-" else 1) if mark else 0}
    for piece in body.split(".") if body != "e" else []:
        count, parts = re.fullmatch(r"([0-9]*)(.*)", piece).groups()
        for kind, many in part_amounts(parts).items():
            told[kind] = told.get(kind, 0) + many * int(count or "1")
    return told


def part_amounts(parts):
    told = {}
    levels = [told]
    for kind, begin, end, count in re.findall(r"(?:([A-Z][a-z]*)|(\()|(\)))([0-9]*)", parts):
        if begin:
            levels.append({})
            continue
        inner = levels.pop() if end else {kind: 1}
        for each, many in inner.items():
            levels[-1][each] = levels[-1].get(each, 0) + many * int(count or "1")
    return told


def sides_of(text):
    """The two sides of a change's text, as lists of pairs of a count and a formula's text."""
    return tuple([term_of(term) for term in side.split(" + ")] for side in text.split(" -> "))


def term_of(term):
    count, blank, text = term.rpartition(" ")
    return (int(count or "1"), text)


def kinds_of(terms):
    return sorted({kind for count, text in terms for kind in amounts_in(text)} - {"+"}) + ["+"]


def columns_of(lefts, rights):
    kinds = kinds_of(lefts + rights)
    told = [[amounts_in(text).get(kind, 0) for kind in kinds] for count, text in lefts]
    return told + [[-amounts_in(text).get(kind, 0) for kind in kinds] for count, text in rights]


def lost_of(lefts, rights):
    told = []
    for kind in kinds_of(lefts + rights):
        left, right = [sum(count * amounts_in(text).get(kind, 0) for count, text in side) for side in (lefts, rights)]
        if left != right:
            told.append((kind, left, right))
    return told


def counts_of(terms):
    told = {}
    for count, text in terms:
        told[text] = told.get(text, 0) + count
    return told


def gains_of(lefts, rights):
    """Of each formula in the change, also where it gains nothing."""
    taken, given = counts_of(lefts), counts_of(rights)
    return {text: given.get(text, 0) - taken.get(text, 0) for text in list(taken) + list(given)}


def total_of(stocks, kind):
    return sum(many * amounts_in(text).get(kind, 0) for text, many in stocks.items())


def turned(stocks, rows):
    """What turn by turn becomes of stocks by rows of a change's text and times: stocks, or a tuple as Short tells."""
    there = dict(stocks)
    for step, (text, times) in enumerate(rows):
        lefts, rights = sides_of(text)
        for turn in range(1, times + 1):
            for count, formula in lefts:
                lack = counts_of(lefts)[formula] - there.get(formula, 0)
                if lack > 0:
                    return (step, turn, formula, lack)
            for count, formula in lefts:
                there[formula] -= count
            for count, formula in rights:
                there[formula] = there.get(formula, 0) + count
    return {text: many for text, many in there.items() if many > 0}
