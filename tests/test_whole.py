"""What is promised over the whole program: what one part tells held against what the others do."""

import importlib
import itertools
import random
import unittest

from balancehall.balances import balanced, settle
from balancehall.changes import read_change
from balancehall.errors import NoBalance, Short
from balancehall.goals import kept, outlook
from balancehall.least import least, split
from balancehall.stocks import Store
from reckoning import levelled
from slowly import columns_of, total_of
from texts import made

INTERFACE = {
    "errors": "HallError TooLong NoFormula NoChange TooMany NoSplit NoBalance Unbalanced Short NoName NoRow",
    "parts": "Part Atom Group Piece",
    "formulas": "Formula read_formula",
    "wholes": "divisor lowest weigh gather",
    "kernel": "kernel Kernel",
    "simple": "simple",
    "settled": "settled",
    "least": "least split",
    "changes": "Change read_change",
    "balances": "settle Verdict balanced",
    "stocks": "Store",
    "goals": "gains kept outlook Outlook",
    "desk": "Desk",
}
EVEN = [
    "2 H2 + O2 -> 2 H2O", "2 H2O -> 2 H2 + O2", "H2O -> H^+ + OH^-", "H^+ + OH^- -> H2O", "H2 -> 2 H", "2 H -> H2",
    "H -> H^+ + e^-", "H^+ + e^- -> H", "2 H2O2 -> 2 H2O + O2", "H2O2 + H2 -> 2 H2O",
]
FORMULAS = ["H2", "O2", "H2O", "H", "H^+", "OH^-", "e^-", "H2O2"]


class WholeTest(unittest.TestCase):
    def test_each_name_of_the_interface_is_there(self):
        for module, names in INTERFACE.items():
            for name in names.split():
                with self.subTest(module=module, name=name):
                    told = getattr(importlib.import_module("balancehall." + module), name)
                    self.assertTrue(callable(told))

    def some_change(self, chance):
        texts = chance.choice([["A", "B", "AB", "A2B"], ["A", "A^+", "e^-", "A2^-"], FORMULAS])
        many = chance.randint(2, 5)
        terms = [(1, chance.choice(texts)) for each in range(many)]
        cut = chance.randint(1, many - 1)
        return terms[:cut], terms[cut:]

    def test_no_balance_uses_what_is_told_as_unused(self):
        chance = random.Random(111)
        unused = 0
        for each in range(100):
            lefts, rights = self.some_change(chance)
            columns = columns_of(lefts, rights)
            balance = settle(made(lefts, rights)).balance
            for numbers in itertools.product(range(4), repeat=len(columns)):
                if levelled(numbers, columns):
                    self.assertTrue(all(one > 0 for one, number in zip(balance, numbers) if number > 0))
            unused += 0 in balance
        self.assertGreater(unused, 20)

    def test_a_balance_is_a_sum_of_least_ones(self):
        chance = random.Random(112)
        seen = 0
        for each in range(150):
            change = made(*self.some_change(chance))
            balance = settle(change).balance
            if 0 < sum(balance) <= 8:
                told = least(change.columns(), sum(balance))
                times = split(change.columns(), balance)
                self.assertEqual(len(times), len(told))
                self.assertEqual(balance, [sum(time * one[place] for time, one in zip(times, told))
                                           for place in range(len(balance))])
                seen += 1
        self.assertGreater(seen, 30)

    def test_a_balanced_change_goes(self):
        chance = random.Random(113)
        gone = 0
        for each in range(100):
            lefts, rights = self.some_change(chance)
            try:
                text = balanced(made(lefts, rights)).shown()
            except NoBalance:
                continue
            stocks = {text: 1000 for count, text in lefts}
            store = Store(stocks)
            store.go(text, 3)
            for kind in ["A", "B", "H", "O", "+"]:
                self.assertEqual(store.total(kind), total_of(stocks, kind))
                self.assertEqual(total_of(store.stocks(), kind), total_of(stocks, kind))
            gone += 1
        self.assertGreater(gone, 20)

    def some_goal(self, chance):
        start = {text: chance.randint(0, 6) for text in FORMULAS}
        texts = chance.sample(EVEN, chance.randint(1, 6))
        if chance.random() < 0.5:
            return start, self.walked(chance, start, texts), texts
        return start, {text: chance.randint(0, 6) for text in FORMULAS}, texts

    def walked(self, chance, start, texts):
        store = Store(start)
        for each in range(10):
            try:
                store.go(chance.choice(texts), chance.randint(1, 2))
            except Short:
                continue
        return store.stocks()

    def test_a_way_goes_where_enough_is_lent(self):
        chance = random.Random(114)
        ways = 0
        for each in range(80):
            start, goal, texts = self.some_goal(chance)
            told = outlook(start, goal, [read_change(text) for text in texts])
            if told.times == 0:
                continue
            lent = 10 ** 6
            store = Store({text: lent + start[text] for text in FORMULAS})
            store.go_all(list(zip(texts, told.numbers)))
            for text in FORMULAS:
                self.assertEqual(store.have(text), lent + start[text] + told.times * (goal.get(text, 0) - start[text]))
            ways += 1
        self.assertGreater(ways, 30)

    def test_no_row_comes_to_a_goal_that_is_never(self):
        chance = random.Random(115)
        never = 0
        for each in range(60):
            start, goal, texts = self.some_goal(chance)
            weights = outlook(start, goal, [read_change(text) for text in texts]).weights
            if not weights:
                continue
            for walk in range(5):
                there = self.walked(chance, start, texts)
                self.assertGreaterEqual(sum(weights[text] * many for text, many in there.items()),
                                        sum(weights[text] * many for text, many in start.items()))
                self.assertNotEqual(there, {text: many for text, many in goal.items() if many > 0})
            never += 1
        self.assertGreater(never, 15)

    def test_what_was_walked_to_is_never_told_as_never(self):
        chance = random.Random(116)
        for each in range(60):
            start = {text: chance.randint(0, 6) for text in FORMULAS}
            texts = chance.sample(EVEN, chance.randint(1, 6))
            goal = self.walked(chance, start, texts)
            changes = [read_change(text) for text in texts]
            self.assertGreater(outlook(start, goal, changes).times, 0)
            for sums in kept(changes):
                self.assertEqual(sum(many * start[text] for text, many in sums.items()),
                                 sum(many * goal.get(text, 0) for text, many in sums.items()))


if __name__ == "__main__":
    unittest.main()
