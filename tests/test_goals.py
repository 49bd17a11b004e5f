import copy
import inspect
import itertools
import random
import unittest

from balancehall.changes import read_change
from balancehall.goals import Outlook, gains, kept, outlook
from balancehall.stocks import Store
from reckoning import bound_places, common, whole
from slowly import gains_of
from texts import made, pairs

TWENTY = 10 ** 20 - 1
WATER = "2 H2 + O2 -> 2 H2O"
SPLIT = "2 H2O -> 2 H2 + O2"


def gained(change):
    return gains_of(pairs(change.lefts), pairs(change.rights))


def formulas(changes):
    return sorted({text for change in changes for text in gained(change)})


def some_change(chance, texts, size):
    """A change that need not be even."""
    sides = [[(chance.randint(1, size), chance.choice(texts)) for each in range(chance.randint(1, 3))]
             for side in range(2)]
    return made(sides[0], sides[1])


class GoalsTest(unittest.TestCase):
    def changes(self, texts):
        return [read_change(text) for text in texts]

    def fields(self, changes):
        return [(list(change.lefts), list(change.rights), change.shown()) for change in changes]


class GainsTest(GoalsTest):
    def look_at(self, change):
        fields = self.fields([change])
        told = gains(change)
        self.assertIs(type(told), dict)
        self.assertEqual(told, {text: many for text, many in gained(change).items() if many != 0})
        self.assertTrue(whole(list(told.values())))
        self.assertEqual(gains(change), told)
        self.assertEqual(self.fields([change]), fields)

    def test_arguments(self):
        self.assertEqual(str(inspect.signature(gains)), "(change)")
        self.assertEqual(str(inspect.signature(kept)), "(changes)")
        self.assertEqual(str(inspect.signature(outlook)), "(start, goal, changes)")

    def test_gains(self):
        for text, told in (
            (WATER, {"H2": -2, "O2": -1, "H2O": 2}),
            ("A -> B", {"A": -1, "B": 1}),
            ("A -> A", {}),
            ("3 A -> 2 A", {"A": -1}),
            ("A + B -> B + A", {}),
            ("A + B -> 3 B + C", {"A": -1, "B": 2, "C": 1}),
            ("A + A + 2 A -> A + 3 A", {}),
            ("A + A + B -> 5 A + 2 B + B", {"A": 3, "B": 2}),
            ("e^- + H^+ -> H", {"e^-": -1, "H^+": -1, "H": 1}),
            ("HO -> OH", {"HO": -1, "OH": 1}),
            ("999999999999 A -> B", {"A": 1 - 10 ** 12, "B": 1}),
        ):
            self.assertEqual(gains(read_change(text)), told)
            self.look_at(read_change(text))

    def test_counts_of_many_figures(self):
        change = made([(TWENTY, "A"), (10 ** 60, "B")], [(TWENTY - 1, "A"), (10 ** 60, "B"), (10 ** 60, "C")])
        self.assertEqual(gains(change), {"A": -1, "C": 10 ** 60})

    def test_many_changes(self):
        chance = random.Random(91)
        for each in range(200):
            self.look_at(some_change(chance, ["A", "B", "A2", "e^-", "A^+"], 3))

    def test_what_is_given_is_the_askers_own(self):
        change = read_change(WATER)
        told = gains(change)
        told["H2"] = 5
        told.clear()
        self.assertEqual(gains(change), {"H2": -2, "O2": -1, "H2O": 2})


class KeptTest(GoalsTest):
    def look_at(self, changes):
        """Holds the kept sums against points 11 and 28, and gives them."""
        fields = self.fields(changes)
        told = kept(changes)
        texts = formulas(changes)
        columns = [[gained(change).get(text, 0) for change in changes] for text in texts]
        bound = bound_places(columns) if columns else []
        free = [place for place in range(len(texts)) if place not in bound]
        self.assertIs(type(told), list)
        self.assertEqual(len(told), len(free))
        for place, each in zip(free, told):
            self.assertIs(type(each), dict)
            self.assertEqual(sorted(each), texts)
            numbers = [each[text] for text in texts]
            self.assertTrue(whole(numbers))
            self.assertEqual(common(numbers), 1)
            self.assertGreater(numbers[place], 0)
            for other in range(len(texts)):
                if other > place or (other in free and other != place):
                    self.assertEqual(numbers[other], 0)
            for change in changes:
                self.assertEqual(sum(many * each[text] for text, many in gained(change).items()), 0)
        self.assertEqual(kept(changes), told)
        self.assertEqual(self.fields(changes), fields)
        return told

    def test_no_changes(self):
        self.assertEqual(kept([]), [])

    def test_one_change(self):
        self.assertEqual(self.look_at(self.changes([WATER])), [
            {"H2": 1, "H2O": 1, "O2": 0}, {"H2": -1, "H2O": 0, "O2": 2},
        ])
        self.assertEqual(self.look_at(self.changes(["A -> B"])), [{"A": 1, "B": 1}])
        self.assertEqual(self.look_at(self.changes(["B -> 2 A"])), [{"A": 1, "B": 2}])
        self.assertEqual(self.look_at(self.changes(["A -> A"])), [{"A": 1}])
        self.assertEqual(self.look_at(self.changes(["A -> 2 A"])), [])
        self.assertEqual(self.look_at(self.changes(["A + B -> A + C"])), [{"A": 1, "B": 0, "C": 0},
                                                                         {"A": 0, "B": 1, "C": 1}])

    def test_several_changes(self):
        self.assertEqual(self.look_at(self.changes([WATER, SPLIT])), kept(self.changes([WATER])))
        self.assertEqual(self.look_at(self.changes(["A -> B", "B -> C"])), [{"A": 1, "B": 1, "C": 1}])
        self.assertEqual(self.look_at(self.changes(["A -> B", "A -> 2 B"])), [])
        self.assertEqual(self.look_at(self.changes(["A -> B", "C -> 3 D"])), [
            {"A": 1, "B": 1, "C": 0, "D": 0}, {"A": 0, "B": 0, "C": 3, "D": 1},
        ])
        self.look_at(self.changes(["H2O -> H^+ + OH^-", WATER, "H2 -> 2 H", "H -> H^+ + e^-"]))

    def test_many_changes(self):
        chance = random.Random(92)
        seen = {}
        for each in range(200):
            texts = ["A", "B", "A2", "e^-", "A^+", "AB", "B(A2)3"][:chance.randint(2, 7)]
            changes = [some_change(chance, texts, 3) for one in range(chance.randint(1, 5))]
            seen[min(len(self.look_at(changes)), 3)] = True
        self.assertEqual(sorted(seen), [0, 1, 2, 3])

    def test_sixty_formulas_and_sixty_changes(self):
        chance = random.Random(93)
        texts = ["A" + chance.choice("bcdef") + str(place) for place in range(2, 62)]
        circle = [made([(1, texts[place])], [(1, texts[place - 1])]) for place in range(60)]
        self.assertEqual(self.look_at(circle), [{text: 1 for text in sorted(texts)}])
        changes = []
        for each in range(60):
            chosen = chance.sample(texts[:45], 4)
            sides = [(chance.randint(1, TWENTY), text) for text in chosen]
            changes.append(made(sides[:2], sides[2:] + [(chance.randint(1, TWENTY), texts[45 + each % 15])]))
        self.look_at(changes)

    def test_sums_stay_behind_goes_of_a_store(self):
        chance = random.Random(94)
        texts = [WATER, SPLIT, "H2O -> H^+ + OH^-", "H2 -> 2 H", "H -> H^+ + e^-", "2 H + O2 -> O2 + H2"]
        told = self.look_at(self.changes(texts))
        self.assertGreaterEqual(len(told), 2)
        store = Store({"H2": 40, "O2": 30, "H2O": 10, "A": 5})
        before = [sum(each[text] * store.have(text) for text in each) for each in told]
        for each in range(60):
            text = chance.choice(texts)
            store.go(text, min(store.most(text), 3))
            self.assertEqual([sum(one[text] * store.have(text) for text in one) for one in told], before)

    def test_what_is_given_is_the_askers_own(self):
        changes = self.changes(["A -> B", "C -> 3 D"])
        told, other = kept(changes), kept(changes)
        told[0].clear()
        told.pop()
        self.assertEqual(other, kept(changes))
        self.assertEqual(len(other), 2)
        self.assertEqual(sorted(other[0]), ["A", "B", "C", "D"])


class OutlookTest(GoalsTest):
    def look_at(self, start, goal, changes):
        """Holds the outlook against each sentence of point 29, and gives it."""
        handed = (copy.deepcopy(start), copy.deepcopy(goal), self.fields(changes))
        orders = (list(start), list(goal))
        told = outlook(start, goal, changes)
        self.assertIs(type(told), Outlook)
        self.assertEqual(sorted(vars(told)), ["numbers", "times", "weights"])
        self.assertEqual((type(told.times), type(told.numbers), type(told.weights)), (int, list, dict))
        texts = sorted(set(start) | set(goal) | set(formulas(changes)))
        if told.times:
            self.assertGreaterEqual(told.times, 1)
            self.assertEqual(told.weights, {})
            self.assertEqual(len(told.numbers), len(changes))
            self.assertTrue(whole(told.numbers))
            self.assertGreaterEqual(min(told.numbers, default=0), 0)
            for text in texts:
                more = sum(number * gained(change).get(text, 0) for number, change in zip(told.numbers, changes))
                self.assertEqual(more, told.times * (goal.get(text, 0) - start.get(text, 0)))
        else:
            self.assertEqual((told.times, told.numbers), (0, []))
            self.assertEqual(sorted(told.weights), texts)
            self.assertTrue(whole(list(told.weights.values())))
            for change in changes:
                self.assertGreaterEqual(sum(many * told.weights[text] for text, many in gained(change).items()), 0)
            self.assertLess(sum(many * told.weights[text] for text, many in goal.items()),
                            sum(many * told.weights[text] for text, many in start.items()))
        self.assertEqual(vars(outlook(start, goal, changes)), vars(told))
        self.assertEqual((start, goal, self.fields(changes)), handed)
        self.assertEqual((list(start), list(goal)), orders)
        return told

    def look_at_texts(self, start, goal, texts):
        return self.look_at(start, goal, self.changes(texts))

    def test_a_way(self):
        told = self.look_at_texts({"H2": 2, "O2": 1}, {"H2O": 2}, [WATER])
        self.assertEqual((told.times, told.numbers), (1, [1]))
        told = self.look_at_texts({"H2": 4, "O2": 2}, {"H2O": 4}, [WATER])
        self.assertEqual((told.times, told.numbers), (1, [2]))
        # One turn gives two, so what parts the goal from the stocks comes only twice at once.
        told = self.look_at_texts({"H2": 1, "O2": 5}, {"H2O": 1, "O2": 5}, ["2 H2 -> 2 H2O"])
        self.assertEqual((told.times, told.numbers), (2, [1]))
        told = self.look_at_texts({"A": 1}, {"D": 1}, ["A -> B", "B -> C", "C -> D"])
        self.assertEqual((told.times, told.numbers), (1, [1, 1, 1]))
        told = self.look_at_texts({"A": 3}, {"C": 3}, ["B -> C", "A -> B"])
        self.assertEqual((told.times, told.numbers), (1, [3, 3]))

    def test_a_way_that_runs_short(self):
        # Nothing of `B` is there to begin with: it is lent.
        told = self.look_at_texts({"A": 1}, {"C": 1}, ["A + B -> 2 C", "C -> B"])
        self.assertEqual((told.times, told.numbers), (1, [1, 1]))

    def test_never(self):
        for start, goal, texts in (
            ({"H2": 2}, {"H2O": 2}, [WATER]),
            ({"H2O": 2}, {"H2": 2, "O2": 1}, [WATER]),
            ({"A": 1}, {"B": 2}, ["A -> B", "B -> A"]),
            ({"A": 1}, {}, ["A -> 2 A"]),
            ({}, {"A": 1}, ["2 A -> A"]),
            ({"B": 1}, {"A": 1}, ["A -> B"]),
            ({"A": 1}, {"B": 1}, ["A -> C", "C -> D"]),
            ({"A": 5}, {"A": 5, "B": 1}, ["A + B -> C"]),
        ):
            self.assertEqual(self.look_at_texts(start, goal, texts).times, 0)

    def test_ways_that_need_not_be_even(self):
        told = self.look_at_texts({}, {"A": 3}, ["A -> 2 A"])
        self.assertEqual((told.times, told.numbers), (1, [3]))
        self.assertEqual(self.look_at_texts({"A": 7}, {}, ["3 A -> 2 A"]).numbers, [7])
        told = self.look_at_texts({"A": 2}, {"B": 3}, ["2 A -> B", "A + B -> 5 B"])
        self.assertEqual((told.times, told.numbers), (7, [5, 4]))

    def test_no_changes(self):
        for amounts in ({}, {"A": 0}, {"A": 3}, {"A": 3, "B": TWENTY}):
            self.assertEqual(vars(self.look_at(amounts, amounts, [])), {"times": 1, "numbers": [], "weights": {}})
            self.assertEqual(vars(self.look_at(amounts, dict(amounts, C=0), [])),
                             {"times": 1, "numbers": [], "weights": {}})
        for start, goal in (({"A": 1}, {}), ({}, {"A": 1}), ({"A": 1}, {"A": 2}), ({"A": 2}, {"A": 1}),
                            ({"A": 1}, {"B": 1}), ({"A": 1, "B": 0}, {"B": 1, "C": 0})):
            told = self.look_at(start, goal, [])
            self.assertEqual(told.times, 0)
            self.assertEqual(sorted(told.weights), sorted(set(start) | set(goal)))

    def test_the_goal_as_the_stocks_are(self):
        for texts in ([], [WATER], [WATER, SPLIT], ["A -> B"], ["A -> A"], ["A -> 2 A", "3 A -> B"]):
            for amounts in ({}, {"A": 4}, {"H2": 3, "O2": 0}, {"C": TWENTY, "A": 1}):
                self.assertGreater(self.look_at_texts(amounts, dict(amounts), texts).times, 0)
                self.assertGreater(self.look_at_texts(amounts, {"N": 0, **amounts}, texts).times, 0)

    def test_changes_that_gain_nothing(self):
        self.assertEqual(self.look_at_texts({"A": 1}, {"B": 1}, ["A -> A", "B -> B"]).times, 0)
        told = self.look_at_texts({"A": 1}, {"B": 1}, ["A -> A", "A -> B", "C -> C"])
        self.assertEqual((told.times, told.numbers[1]), (1, 1))

    def test_keys_of_amount_nought_stand_in_the_weights(self):
        told = self.look_at_texts({"A": 1, "N": 0}, {"B": 1, "M": 0, "N": 0}, ["C + D -> D + E"])
        self.assertEqual(sorted(told.weights), ["A", "B", "C", "D", "E", "M", "N"])
        told = self.look_at_texts({"A": 0}, {"B": 2}, [])
        self.assertEqual(sorted(told.weights), ["A", "B"])
        self.assertGreater(self.look_at_texts({"A": 0}, {"B": 0}, []).times, 0)
        self.assertGreater(self.look_at_texts({"A": 0}, {}, ["B -> C"]).times, 0)

    def test_formulas_in_one_of_the_three_alone(self):
        told = self.look_at_texts({"A": 1}, {"B": 1}, ["C -> D"])
        self.assertEqual(sorted(told.weights), ["A", "B", "C", "D"])
        told = self.look_at_texts({"A": 1}, {"B": 1}, ["A + C -> B + C"])
        self.assertEqual((told.times, told.numbers), (1, [1]))
        self.assertEqual(self.look_at_texts({"A": 1, "X": 1}, {"B": 1}, ["A -> B"]).times, 0)
        self.assertEqual(self.look_at_texts({"A": 1}, {"B": 1, "X": 1}, ["A -> B"]).times, 0)
        self.assertEqual(self.look_at_texts({"A": 1}, {"B": 1}, ["A -> B + X"]).times, 0)

    def test_seven_changes(self):
        chain = ["A -> B", "B -> C", "C -> D", "D -> E", "E -> F", "F -> G", "G -> H"]
        self.assertEqual(self.look_at_texts({"A": 2}, {"H": 2}, chain).numbers, [2] * 7)
        self.assertEqual(self.look_at_texts({"H": 1}, {"A": 1}, chain).times, 0)
        circle = chain[:6] + ["G -> A"]
        for one, other in itertools.product("ACG", repeat=2):
            self.assertGreater(self.look_at_texts({one: 1}, {other: 1}, circle).times, 0)
            self.assertEqual(self.look_at_texts({one: 1}, {other: 2}, circle).times, 0)
        self.look_at_texts({"A": 1}, {"B": 1}, [WATER] * 7)
        self.look_at_texts({"H2": 4, "O2": 2}, {"H2O": 4}, [WATER] * 7)

    def test_many_outlooks(self):
        chance = random.Random(95)
        seen = {True: 0, False: 0}
        for each in range(250):
            texts = ["A", "B", "A2", "e^-", "A^+"][:chance.randint(2, 5)]
            changes = [some_change(chance, texts, 2) for one in range(chance.randint(0, 5))]
            start, goal = [{text: chance.randint(0, 3) for text in texts if chance.random() < 0.7} for one in range(2)]
            told = self.look_at(start, goal, changes)
            seen[told.times > 0] += 1
        self.assertGreater(min(seen.values()), 50)

    def test_whatever_rows_go_there_is_a_way(self):
        chance = random.Random(96)
        for each in range(60):
            texts = ["A", "B", "A2", "AB", "A^+"]
            changes = [some_change(chance, texts, 3) for one in range(chance.randint(1, 5))]
            start = {text: chance.randint(0, 5) for text in texts}
            goal = dict(start)
            for change in changes:
                times = chance.randint(0, 2)
                for text, many in gained(change).items():
                    goal[text] += times * many
            low = min(goal.values())
            start, goal = [{text: many - min(low, 0) for text, many in one.items()} for one in (start, goal)]
            self.assertGreater(self.look_at(start, goal, changes).times, 0)

    def test_sixty_formulas_and_twenty_figures(self):
        chance = random.Random(97)
        texts = ["A" + str(place) for place in range(2, 62)]
        for each in range(3):
            changes = []
            for one in range(7):
                terms = [(chance.randint(1, TWENTY), text) for text in chance.sample(texts, 8)]
                changes.append(made(terms[:4], terms[4:]))
            start = {text: chance.randint(0, TWENTY) for text in texts}
            goal = {text: chance.randint(0, TWENTY) for text in texts}
            self.assertEqual(self.look_at(start, goal, changes).times, 0)
            start = {text: 10 ** 24 for text in texts}
            goal = dict(start)
            for place, change in enumerate(changes):
                for text, many in gained(change).items():
                    goal[text] += place * many
            told = self.look_at(start, goal, changes)
            self.assertGreater(told.times, 0)
        start = {text: chance.randint(0, TWENTY) for text in texts}
        self.look_at(start, start, changes)
        told = self.look_at({"A": TWENTY}, {"B": TWENTY - 1}, [made([(TWENTY, "A")], [(TWENTY - 2, "B")])])
        self.assertEqual(told.times, 0)
        told = self.look_at({"A": TWENTY - 1}, {"B": TWENTY - 1}, [made([(TWENTY, "A")], [(TWENTY, "B")])])
        self.assertEqual((told.times, told.numbers), (TWENTY, [TWENTY - 1]))

    def test_what_is_given_is_the_askers_own(self):
        changes = self.changes([WATER])
        never, way = outlook({"H2": 2}, {"H2O": 2}, changes), outlook({"H2": 2, "O2": 1}, {"H2O": 2}, changes)
        kept_weights = dict(never.weights)
        never.weights.clear()
        never.numbers.append(1)
        way.numbers.clear()
        way.weights["A"] = 1
        self.assertEqual(outlook({"H2": 2}, {"H2O": 2}, changes).weights, kept_weights)
        self.assertEqual(outlook({"H2": 2}, {"H2O": 2}, changes).numbers, [])
        self.assertEqual(vars(outlook({"H2": 2, "O2": 1}, {"H2O": 2}, changes)),
                         {"times": 1, "numbers": [1], "weights": {}})

    def test_an_outlook_keeps_copies(self):
        numbers, weights = [1], {"A": 2}
        told = Outlook(3, numbers, weights)
        numbers.clear()
        weights.clear()
        self.assertEqual(vars(told), {"times": 3, "numbers": [1], "weights": {"A": 2}})


if __name__ == "__main__":
    unittest.main()
