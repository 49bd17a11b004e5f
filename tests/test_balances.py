import inspect
import random
import unittest

from balancehall.balances import Verdict, balanced, settle
from balancehall.changes import Change, read_change
from balancehall.errors import HallError, NoBalance
from balancehall.formulas import Formula
from balancehall.parts import Atom, Piece
from reckoning import bound_places, common, levelled, weight, whole
from slowly import columns_of, kinds_of, lost_of
from texts import made, pairs

# Changes with one way alone to balance them, and their counts.
ONE_WAY = [
    ("H2 + O2 -> H2O", [2, 1, 2]),
    ("A -> A", [1, 1]),
    ("e^- -> e^-", [1, 1]),
    ("A2 -> A3", [3, 2]),
    ("CuSO4.5H2O -> CuSO4 + H2O", [1, 1, 5]),
    ("Cu^2+ + e^- -> Cu", [1, 2, 1]),
    ("Al + Fe2O3 -> Al2O3 + Fe", [2, 1, 1, 2]),
    ("C8H18 + O2 -> CO2 + H2O", [2, 25, 16, 18]),
    ("Ca(OH)2 + H3PO4 -> Ca3(PO4)2 + H2O", [3, 2, 1, 6]),
    ("MnO4^- + H^+ + Fe^2+ -> Mn^2+ + Fe^3+ + H2O", [1, 8, 5, 1, 5, 4]),
    ("KMnO4 + HCl -> KCl + MnCl2 + H2O + Cl2", [2, 16, 2, 2, 8, 5]),
    ("Fe36Si5 + H3PO4 + K2Cr2O7 -> FePO4 + SiO2 + K3PO4 + CrPO4 + H2O", [9, 836, 192, 324, 45, 128, 384, 1254]),
    ("CO -> Co", None),
]


class LookedAt(unittest.TestCase):
    def look_at(self, change):
        """Holds all that is told of a change against points 13 and 19, and gives the verdict."""
        lefts, rights = pairs(change.lefts), pairs(change.rights)
        fields = {"lefts": list(change.lefts), "rights": list(change.rights)}
        columns, kinds = columns_of(lefts, rights), kinds_of(lefts + rights)
        verdict = settle(change)
        self.look_at_verdict(verdict, columns, kinds)
        self.assertEqual(vars(settle(change)), vars(verdict))
        if verdict.full():
            self.look_at_balanced(change, balanced(change), columns)
        else:
            for each in range(2):
                with self.assertRaises(HallError) as taken:
                    balanced(change)
                self.assertIs(type(taken.exception), NoBalance)
                self.look_at_weights(taken.exception.weights, verdict.balance, columns, kinds)
        self.assertEqual(vars(change), fields)
        self.assertEqual((pairs(change.lefts), pairs(change.rights)), (lefts, rights))
        return verdict

    def look_at_verdict(self, verdict, columns, kinds):
        self.assertIs(type(verdict), Verdict)
        self.assertEqual(sorted(vars(verdict)), ["balance", "independent", "weights"])
        self.assertIs(type(verdict.balance), list)
        self.assertIs(type(verdict.independent), int)
        self.assertTrue(whole(verdict.balance))
        self.assertEqual(len(verdict.balance), len(columns))
        self.assertGreaterEqual(min(verdict.balance), 0)
        self.assertTrue(levelled(verdict.balance, columns))
        self.assertEqual(common(verdict.balance), 1 if any(verdict.balance) else 0)
        self.look_at_weights(verdict.weights, verdict.balance, columns, kinds)
        self.assertEqual(verdict.independent, len(columns) - len(bound_places(columns)))
        self.assertIs(verdict.full(), 0 not in verdict.balance)

    def look_at_weights(self, weights, balance, columns, kinds):
        self.assertIs(type(weights), dict)
        self.assertEqual(sorted(weights), sorted(kinds))
        told = [weights[kind] for kind in kinds]
        self.assertTrue(whole(told))
        self.assertEqual(common(told), 1 if any(told) else 0)
        for number, column in zip(balance, columns):
            self.assertGreaterEqual(weight(told, column), 0)
            self.assertNotEqual(number > 0, weight(told, column) > 0)

    def look_at_balanced(self, change, told, columns):
        self.assertIs(type(told), Change)
        self.assertIsNot(told, change)
        lefts, rights = pairs(told.lefts), pairs(told.rights)
        self.assertEqual([text for count, text in lefts], [text for count, text in pairs(change.lefts)])
        self.assertEqual([text for count, text in rights], [text for count, text in pairs(change.rights)])
        counts = [count for count, text in lefts + rights]
        self.assertTrue(whole(counts))
        self.assertGreater(min(counts), 0)
        self.assertTrue(levelled(counts, columns))
        self.assertEqual(common(counts), 1)
        self.assertEqual(lost_of(lefts, rights), [])
        self.assertEqual(told.lost(), [])
        self.assertEqual(balanced(change).shown(), told.shown())
        if max(counts) < 10 ** 12 and len(told.shown()) <= 400:
            self.assertEqual(read_change(told.shown()).lost(), [])
            self.assertEqual(read_change(told.shown()).shown(), told.shown())

    def look_at_text(self, text):
        with self.subTest(text):
            return self.look_at(read_change(text))


class BalancesTest(LookedAt):
    def test_arguments(self):
        self.assertEqual(str(inspect.signature(settle)), "(change)")
        self.assertEqual(str(inspect.signature(balanced)), "(change)")
        self.assertEqual(str(inspect.signature(Verdict.full)), "(self)")

    def test_one_way(self):
        for text, counts in ONE_WAY:
            verdict = self.look_at_text(text)
            self.assertEqual(verdict.independent, 1 if counts else 0, text)
            self.assertIs(verdict.full(), counts is not None)
            self.assertEqual(verdict.balance, counts or [0, 0], text)

    def test_the_balanced_change_is_shown(self):
        for text, told in (
            ("H2 + O2 -> H2O", "2 H2 + O2 -> 2 H2O"),
            ("9 H2 + 7 O2 -> 5 H2O", "2 H2 + O2 -> 2 H2O"),
            ("2 H2 + O2 -> 2 H2O", "2 H2 + O2 -> 2 H2O"),
            ("A -> A", "A -> A"),
            ("12 e^- -> 3 e^-", "e^- -> e^-"),
            ("Cu^2+ + e^- -> Cu", "Cu^2+ + 2 e^- -> Cu"),
            ("KMnO4 + HCl -> KCl + MnCl2 + H2O + Cl2", "2 KMnO4 + 16 HCl -> 2 KCl + 2 MnCl2 + 8 H2O + 5 Cl2"),
        ):
            self.assertEqual(balanced(read_change(text)).shown(), told)
            self.look_at_text(text)

    def test_several_ways(self):
        for text, ways in (
            ("KClO3 -> KClO4 + KCl + O2", 2),
            ("A + A -> A", 2),
            ("A + A -> A + A", 3),
            ("H2O2 + MnO4^- + H^+ -> Mn^2+ + H2O + O2", 2),
            ("A + B -> AB + A + B", 3),
            ("C + O2 -> CO + CO2", 2),
            ("e^- + e^- -> e^- + e^- + e^- + e^- + e^- + e^-", 7),
        ):
            verdict = self.look_at_text(text)
            self.assertTrue(verdict.full(), text)
            self.assertEqual(verdict.independent, ways, text)

    def test_no_way(self):
        for text in ("H2 -> O2", "A -> AB", "H -> H^+", "A + B -> C", "e^- -> A^+", "H2O -> H2 + O^-", "Co -> CO",
                     "A2B -> AB2", "A + B + C + D -> E + F + G + H"):
            verdict = self.look_at_text(text)
            self.assertFalse(verdict.full())
            self.assertEqual(verdict.independent, 0, text)
            self.assertEqual(verdict.balance, [0] * len(verdict.balance))

    def test_levelled_with_both_signs_alone(self):
        for text, ways in (("H2 + O2 + H2O -> N2", 1), ("A + A -> B", 1),
                           ("A -> B + B^2- + B^2+", 1), ("A^+ + A^- + A -> e^-", 2), ("A + A -> B + B", 2)):
            verdict = self.look_at_text(text)
            self.assertEqual(verdict.independent, ways, text)
            self.assertFalse(verdict.full())

    def test_some_formulas_are_used(self):
        for text, used in (
            ("H2 + O2 + N2 -> H2O", [0, 1, 3]),
            ("A + B -> A", [0, 2]),
            ("A -> A + B + C", [0, 1]),
            ("H2 + O2 -> H2O + H2O^+", [0, 1, 2]),
            ("A + B^2+ + C^- -> B + A^+", [0, 1, 3, 4]),
            ("A + B -> C + AB^+ + AB", [0, 1, 4]),
            ("C + O2 + Co -> CO2 + CO", [0, 1, 3, 4]),
        ):
            verdict = self.look_at_text(text)
            self.assertFalse(verdict.full())
            self.assertEqual([place for place, number in enumerate(verdict.balance) if number > 0], used, text)

    def test_electrons_and_charges(self):
        self.assertEqual(settle(read_change("e^- -> e^-")).weights, {"+": 0})
        self.assertEqual(settle(read_change("H -> H^+")).balance, [0, 0])
        self.assertEqual(settle(read_change("H -> H^+ + e^-")).balance, [1, 1, 1])
        self.assertEqual(settle(read_change("Cr2O7^2- + H^+ + e^- -> Cr^3+ + H2O")).balance, [1, 14, 6, 2, 7])
        self.assertEqual(settle(read_change("A^3+ + B^2- -> A2B3")).balance, [2, 3, 1])
        self.assertEqual(settle(read_change("A^999+ + e^- -> A^999-")).balance, [1, 1998, 1])
        self.assertEqual(settle(read_change("e^- + A^2- -> A^5-")).balance, [3, 1, 1])
        for text in ("e^- -> e^-", "H -> H^+", "A^3+ + B^2- -> A2B3", "A^999+ + e^- -> A^999-", "A^+ -> A^- + e^-"):
            self.look_at_text(text)

    def test_one_formula_on_both_sides(self):
        for text in ("A -> A", "A + B -> B + A", "A + B -> A", "A -> A + A", "2 H2 + O2 + H2O -> H2O + H2O", "AB -> BA",
                     "A + A + A + A -> A + A + A + A"):
            self.look_at_text(text)

    def test_the_written_counts_do_not_matter(self):
        for text in ("H2 + O2 -> H2O", "H2 + O2 + N2 -> H2O", "KClO3 -> KClO4 + KCl + O2"):
            plain = read_change(text)
            for count in (2, 7, 10 ** 12 - 1, 10 ** 60):
                change = Change([(count, formula) for one, formula in plain.lefts],
                                [(count + 3, formula) for one, formula in plain.rights])
                self.look_at(change)
                self.assertEqual(vars(settle(change)), vars(settle(plain)))
                if settle(plain).full():
                    self.assertEqual(balanced(change).shown(), balanced(plain).shown())

    def test_eight_terms(self):
        chance = random.Random(71)
        for text in ("A + B + C + D -> A + B + C + D", "H2 + O2 + C + N2 -> CH4 + NH3 + CO2 + H2O",
                     "A -> A + A + A + A + A + A + A", "A2 + B3 + C5 + D7 + E11 + F13 + G17 -> ABCDEFG"):
            self.assertTrue(self.look_at_text(text).full())
        kinds = ["Aa", "Bb", "Cc", "D", "E", "+"]
        for each in range(10):
            terms = [self.some_term(chance, kinds) for place in range(8)]
            self.look_at(made(terms[:4], terms[4:]))

    def test_many_changes(self):
        chance = random.Random(72)
        seen = {}
        for each in range(250):
            kinds = chance.choice([["A", "B"], ["A", "Bc", "+"], ["C", "Co", "O", "+"]])
            many = chance.randint(2, 6)
            terms = [self.some_term(chance, kinds) for place in range(many)]
            cut = chance.randint(1, many - 1)
            verdict = self.look_at(made(terms[:cut], terms[cut:]))
            key = (verdict.full(), any(verdict.balance), min(verdict.independent, 2))
            seen[key] = seen.get(key, 0) + 1
        self.assertEqual(sorted(seen), [(False, False, 0), (False, False, 1), (False, False, 2), (False, True, 1),
                                        (False, True, 2), (True, True, 1), (True, True, 2)])

    def some_term(self, chance, kinds):
        count = chance.choice([1, 1, 2, 30])
        if "+" in kinds and chance.random() < 0.15:
            return (count, "e^-")
        chosen = chance.sample([kind for kind in kinds if kind != "+"], chance.randint(1, 2))
        body = "".join(kind + chance.choice(["", "2", "3"]) for kind in chosen)
        return (count, body + (chance.choice(["", "^+", "^2-", "^-"]) if "+" in kinds else ""))

    def test_great_counts(self):
        deep = "((((A999)997)991)983)977"
        text = deep + " -> ((((A998)996)990)982)976"
        counts = self.look_at_text(text).balance
        self.assertGreater(min(counts), 10 ** 12)
        self.assertEqual(balanced(read_change(text)).shown(),
                         f"{counts[0]} " + text.replace("-> ", f"-> {counts[1]} "))
        text = "A997 + A991 + " + deep + "B -> A983 + A977 + B971"
        self.assertTrue(self.look_at_text(text).full())
        self.assertGreater(max(settle(read_change(text)).balance), 10 ** 12)

    def test_counts_beyond_twenty_figures(self):
        primes = [997, 991, 983, 977, 971, 967, 953]
        product = 1
        for prime in primes:
            product *= prime
        text = " + ".join(f"{kind}{prime}" for kind, prime in zip("ABCDEFG", primes)) + " -> ABCDEFG"
        self.assertEqual(self.look_at_text(text).balance, [product // prime for prime in primes] + [product])
        self.assertEqual(len(str(product)), 21)
        self.assertTrue(balanced(read_change(text)).shown().endswith(f" -> {product} ABCDEFG"))

    def test_many_kinds(self):
        greats = "ABCDEFGHIJKLMNOPQRSTUVWXYZ"
        kinds = [great + small for great in greats for small in ("", "a")][:46]
        text = "".join(kinds) + " + " + "".join(kinds) + "2 -> " + "".join(reversed(kinds))
        self.assertLessEqual(len(text), 400)
        verdict = self.look_at_text(text)
        self.assertEqual(len(verdict.weights), 47)
        self.assertEqual(verdict.balance, [1, 0, 1])
        made_by_hand = Change([(1, Formula([Piece([Atom(kind, place + 1) for place, kind in enumerate(kinds)])]))],
                              [(1, Formula([Piece([Atom(kind)])])) for kind in kinds[:7]])
        self.assertEqual(self.look_at(made_by_hand).balance, [0] * 8)

    def test_no_balance_tells_weights(self):
        with self.assertRaises(NoBalance) as taken:
            balanced(read_change("A -> AB"))
        weights = taken.exception.weights
        self.assertEqual(sorted(weights), ["+", "A", "B"])
        self.assertGreater(weights["A"], 0)
        self.assertLess(weights["A"] + weights["B"], 0)
        with self.assertRaises(NoBalance) as taken:
            balanced(read_change("H2 + O2 + N2 -> H2O"))
        self.assertEqual(taken.exception.weights, {"H": 0, "N": 1, "O": 0, "+": 0})
        with self.assertRaises(NoBalance) as taken:
            balanced(read_change("3 H -> 3 H^+"))
        self.assertEqual(taken.exception.weights["+"], -taken.exception.weights["H"] - 1)

    def test_what_is_given_is_the_askers_own(self):
        change = read_change("H2 + O2 + N2 -> H2O")
        verdict, other = settle(change), settle(change)
        verdict.balance.clear()
        verdict.weights["H"] = 9
        with self.assertRaises(NoBalance) as taken:
            balanced(change)
        taken.exception.weights.clear()
        self.assertEqual(other.balance, [2, 1, 0, 2])
        self.assertEqual(other.weights, {"H": 0, "N": 1, "O": 0, "+": 0})
        self.assertEqual(vars(settle(change)), vars(other))
        with self.assertRaises(NoBalance) as taken:
            balanced(change)
        self.assertEqual(taken.exception.weights, {"H": 0, "N": 1, "O": 0, "+": 0})
        water = read_change("H2 + O2 -> H2O")
        told = balanced(water)
        told.lefts.pop()
        told.rights.clear()
        self.assertEqual(water.shown(), "H2 + O2 -> H2O")
        self.assertEqual(balanced(water).shown(), "2 H2 + O2 -> 2 H2O")

    def test_a_verdict_keeps_copies(self):
        balance, weights = [1, 2], {"A": 3}
        verdict = Verdict(balance, weights, 1)
        balance.append(0)
        weights["B"] = 4
        self.assertEqual(verdict.balance, [1, 2])
        self.assertEqual(verdict.weights, {"A": 3})
        self.assertIs(verdict.full(), True)
        self.assertIs(Verdict([1, 0, 2], {}, 0).full(), False)


if __name__ == "__main__":
    unittest.main()
