import inspect
import itertools
import random
import unittest

from balancehall.desk import Desk
from balancehall.errors import HallError, NoChange, NoFormula, NoName, NoRow, Short, TooLong, TooMany, Unbalanced
from reckoning import common, levelled, weight
from slowly import columns_of, gains_of, kinds_of, lost_of, sides_of, total_of, turned

SIXTY = "9" * 60
WATER = "2 H2 + O2 -> 2 H2O"
SPLIT = "2 H2O -> 2 H2 + O2"
NAMES = ["a", "b", "c", "d", "e", "f", "g", "h", "i", "water", "split", "abcdefgh"]
FORMULAS = ["H2", "O2", "H2O", "A", "B", "AB", "C", "e^-", "H^+", "N2"]
KINDS = ["H", "O", "A", "B", "C", "N", "Co", "Cob", "+"]

NO_NUMBERS = ["00", "01", "007", "+1", "-1", "1.0", "1a", "a", "", "1_0", "1" + "0" * 60, "9" * 61, "0x1", "1e3", "^"]
NO_NAMES = ["", "abcdefghi", "A", "aB", "a1", "1", "a-b", "a_b", "+", "H2O", "a.", "~"]
NO_KINDS = ["", "h", "e", "AB", "A2", "Abcd", "+1", "++", "-", "-1", "e^-", "H^+", "1", "aB", "A-", "(A)", "Ab2"]
NO_FORMULAS = [("", 0), ("H0", 1), ("H1", 2), ("()", 1), ("A(B", 3), ("h", 0), ("2H", 0), ("0", 0), ("H2^", 3)]
NO_CHANGES = [("", 0), (" ", 0), ("A", 1), ("A -> ", 5), (" A -> A", 0), ("A -> A ", 7), ("A  -> A", 2),
              ("A -> 1 A", 6), ("A ->  A", 5), ("a", 0), ("A -> A -> A", 7)]


def slow_least(columns, most):
    """All least balances with a sum of at most so much, by looking at all numbers."""
    told = [numbers for numbers in itertools.product(range(most + 1), repeat=len(columns))
            if 0 < sum(numbers) <= most and levelled(numbers, columns)]
    return sorted(numbers for numbers in told if not any(
        other != numbers and all(one <= two for one, two in zip(other, numbers)) for other in told))


class DeskTest(unittest.TestCase):
    def told(self, *rows):
        """A desk that has been told these rows."""
        desk = Desk()
        for row in rows:
            self.assertEqual(desk.say(row), "ok", row)
        return desk

    def answers(self, desk, rows):
        for row, answer in rows:
            told = desk.say(row)
            self.assertIs(type(told), str)
            self.assertEqual(told, answer, row)

    def look(self, desk):
        told = []
        for name in NAMES:
            try:
                told.append(desk.say("show " + name))
            except NoName:
                told.append(None)
        told += [desk.say("have " + text) for text in FORMULAS]
        return told + [desk.say("total " + kind) for kind in KINDS]

    def refuse(self, desk, row, refusal, **fields):
        """Twice: what is refused changes nothing."""
        kept = self.look(desk)
        for each in range(2):
            with self.assertRaises(HallError, msg=row) as taken:
                desk.say(row)
            self.assertIs(type(taken.exception), refusal, row)
            self.assertEqual(vars(taken.exception), fields, row)
            self.assertEqual(self.look(desk), kept, row)

    def full_desk(self):
        return self.told("change a A -> A", "change water " + WATER, "change b H2 + O2 -> H2O", "change c A + B -> AB",
                         "put H2 5", "put O2 9", "put e^- 2", "put A 1")


class RowsTest(DeskTest):
    """Each row of the interface with its answer."""

    def test_arguments(self):
        self.assertEqual(str(inspect.signature(Desk)), "()")
        self.assertEqual(str(inspect.signature(Desk.say)), "(self, row)")

    def test_change_and_show_and_drop(self):
        desk = Desk()
        self.answers(desk, [
            ("change a A -> B", "ok"), ("show a", "A -> B"),
            ("change water " + WATER, "ok"), ("show water", WATER), ("show a", "A -> B"),
            ("change a 12 e^- + Cu^2+ -> CuSO4.5H2O", "ok"), ("show a", "12 e^- + Cu^2+ -> CuSO4.5H2O"),
            ("drop a", "ok"), ("show water", WATER),
            ("change a AB -> BA", "ok"), ("show a", "AB -> BA"),
            ("change abcdefgh A -> A", "ok"), ("show abcdefgh", "A -> A"),
            ("change z A -> Z", "ok"), ("show z", "A -> Z"),
        ])
        desk.say("drop a")
        self.refuse(desk, "show a", NoName, name="a")
        self.refuse(desk, "drop a", NoName, name="a")
        self.answers(desk, [("change a A -> A", "ok"), ("show a", "A -> A"), ("drop a", "ok")])

    def test_names_like_first_words(self):
        desk = Desk()
        for name in ("change", "drop", "go", "goal", "ok", "none", "least", "show"):
            self.answers(desk, [(f"change {name} A -> A", "ok"), ("show " + name, "A -> A"), ("lost " + name, "none")])

    def test_a_change_of_400_signs(self):
        desk = Desk()
        text = "A -> " + "B" * 395
        self.answers(desk, [("change a " + text, "ok"), ("show a", text), ("lost a", "A 1 0; B 0 395")])
        self.refuse(desk, "change a " + text + "B", TooLong, many=401)
        self.refuse(desk, "change a " + "?" * 4000, TooLong, many=4000)

    def test_balance(self):
        desk = Desk()
        for text, answer in (
            ("H2 + O2 -> H2O", WATER), ("7 H2 + 9 O2 -> 3 H2O", WATER), ("A -> A", "A -> A"),
            ("Cu^2+ + e^- -> Cu", "Cu^2+ + 2 e^- -> Cu"), ("H2 + O2 -> H2", "no H 0 O 1 + 0"),
            ("H2 + O2 + Co -> H2O", "no Co 1 H 0 O 0 + 0"), ("e^- -> e^-", "e^- -> e^-"), ("e^- + e^- -> A", None),
            ("H -> H^+", None), ("H2 -> O2", None), ("A + B + C + D -> E + F + G + H", None), ("A -> AB", None),
            ("KClO3 -> KClO4 + KCl + O2", None), ("A997 -> A991", "991 A997 -> 997 A991"),
        ):
            desk.say("change a " + text)
            told = desk.say("balance a")
            self.look_at_balance(text, told)
            self.assertEqual(told, answer or told)
            self.assertEqual(desk.say("balance a"), told)
            self.assertEqual(desk.say("show a"), text)

    def look_at_balance(self, text, told):
        lefts, rights = sides_of(text)
        columns, kinds = columns_of(lefts, rights), kinds_of(lefts + rights)
        words = told.split(" ")
        if words[0] != "no":
            terms = sides_of(told)
            self.assertEqual([[formula for count, formula in side] for side in terms],
                             [[formula for count, formula in side] for side in (lefts, rights)])
            counts = [count for side in terms for count, formula in side]
            self.assertTrue(levelled(counts, columns))
            self.assertEqual((min(counts) > 0, common(counts)), (True, 1))
            return
        self.assertEqual(words[1::2], kinds)
        weights = [int(word) for word in words[2::2]]
        self.assertEqual([str(each) for each in weights], words[2::2])
        self.assertEqual(common(weights), 1)
        self.assertGreaterEqual(min(weight(weights, column) for column in columns), 0)

    def test_weights_below_nought_are_written_with_a_sign(self):
        desk = self.told("change a A -> AB")
        words = desk.say("balance a").split(" ")
        self.assertEqual(words[0::2][:1] + words[1::2], ["no", "A", "B", "+"])
        self.assertGreater(int(words[2]), 0)
        self.assertLess(int(words[2]) + int(words[4]), 0)
        self.assertEqual(words[4], "-" + str(-int(words[4])))

    def test_least(self):
        desk = self.told("change a A -> A", "change b A + A -> A", "change water H2 + O2 -> H2O", "change c A -> B",
                         "change d 5 A + 7 A2 -> A3 + A")
        self.answers(desk, [
            ("least a 0", "none"), ("least a 1", "none"), ("least a 2", "1 1"), ("least a 8", "1 1"),
            ("least b 2", "0 1 1; 1 0 1"), ("least b 8", "0 1 1; 1 0 1"), ("least b 1", "none"),
            ("least water 4", "none"), ("least water 5", "2 1 2"), ("least c 8", "none"),
        ])
        for name, text in (("b", "A + A -> A"), ("d", "5 A + 7 A2 -> A3 + A"), ("water", "H2 + O2 -> H2O")):
            for most in range(9):
                least = slow_least(columns_of(*sides_of(text)), most)
                answer = "; ".join(" ".join(str(number) for number in each) for each in least) or "none"
                self.assertEqual(desk.say(f"least {name} {most}"), answer)

    def test_lost(self):
        desk = Desk()
        for text, answer in (
            (WATER, "none"), ("2 H2 + O2 -> H2O", "H 4 2; O 2 1"), ("H2 + O2 -> H2O", "O 2 1"), ("H -> H^+", "+ 0 1"),
            ("A -> B^2-", "A 1 0; B 0 1; + 0 -2"), ("Cu^2+ -> Cu + 2 e^-", "+ 2 -2"), ("A + B -> BA", "none"),
            ("999999999999 (((A999)999)999)999 -> A", f"A {999 ** 4 * (10 ** 12 - 1)} 1"),
        ):
            self.answers(desk, [("change x " + text, "ok"), ("lost x", answer), ("lost x", answer)])

    def test_put_and_have(self):
        self.answers(Desk(), [
            ("have H2", "0"), ("put H2 3", "ok"), ("have H2", "3"), ("put H2 0", "ok"), ("have H2", "3"),
            ("put H2 10", "ok"), ("have H2", "13"), ("have H", "0"), ("put e^- " + SIXTY, "ok"), ("have e^-", SIXTY),
            ("put e^- " + SIXTY, "ok"), ("have e^-", str(2 * int(SIXTY))), ("put CuSO4.5H2O 100", "ok"),
            ("have CuSO4.5H2O", "100"), ("put N2 0", "ok"), ("have N2", "0"), ("have " + "A" * 400, "0"),
            ("put " + "A" * 400 + " 7", "ok"), ("have " + "A" * 400, "7"),
        ])

    def test_go(self):
        desk = self.told("change water " + WATER, "change split " + SPLIT, "put H2 20", "put O2 10")
        self.answers(desk, [
            ("go water", "ok"), ("have H2", "18"), ("have H2O", "2"), ("go water 3", "ok"), ("have H2O", "8"),
            ("go split 0", "ok"), ("have H2O", "8"), ("go split 4", "ok"), ("have H2", "20"), ("have O2", "10"),
            ("have H2O", "0"), ("go water 10", "ok"), ("have H2O", "20"), ("have H2", "0"),
        ])
        self.refuse(desk, "go water", Short, step=0, turn=1, formula="H2", lack=2)
        self.refuse(desk, "go split 11", Short, step=0, turn=11, formula="H2O", lack=2)
        self.refuse(desk, "go split " + SIXTY, Short, step=0, turn=11, formula="H2O", lack=2)
        desk = self.told("change water " + WATER, "put H2 " + SIXTY, "put H2 " + SIXTY, "put O2 " + SIXTY)
        self.answers(desk, [("most water", SIXTY), ("go water " + SIXTY, "ok"), ("have H2O", str(2 * int(SIXTY))),
                            ("most water", "0")])

    def test_go_takes_the_change_that_stands(self):
        desk = self.told("change a A -> A", "put A 5", "change b (A)2 -> A + A", "change a A + A -> (A)2")
        self.answers(desk, [("go a 2", "ok"), ("have A", "1"), ("have (A)2", "2"), ("go b", "ok"), ("have A", "3"),
                            ("drop a", "ok"), ("change a 3 A -> A3", "ok"), ("go a", "ok"), ("have A3", "1")])

    def test_most(self):
        desk = self.told("change water " + WATER, "change a A -> A", "change b B -> B", "change c 2 A -> A + A")
        self.answers(desk, [
            ("most water", "0"), ("most a", "0"), ("put A 1", "ok"), ("most a", "ever"), ("most b", "0"),
            ("most c", "0"), ("put H2 9", "ok"), ("put O2 " + SIXTY, "ok"), ("most water", "4"), ("put A 1", "ok"),
            ("most c", "ever"), ("put H2 " + SIXTY, "ok"), ("most water", str((int(SIXTY) + 9) // 2)),
        ])
        self.assertEqual(desk.say("have H2"), str(int(SIXTY) + 9))

    def test_total(self):
        desk = self.told("put H2O 3", "put SO4^2- 2", "put e^- 5", "put Cob 7", "put CoC 2")
        self.answers(desk, [("total H", "6"), ("total O", "11"), ("total S", "2"), ("total +", "-9"), ("total C", "2"),
                            ("total Co", "2"), ("total Cob", "7"), ("total Zzz", "0"), ("total A", "0"),
                            ("put A999 " + SIXTY, "ok"), ("total A", str(999 * int(SIXTY)))])

    def test_nothing_of_numbers_but_noughts(self):
        self.answers(Desk(), [("total +", "0"), ("total H", "0"), ("have e^-", "0")])


class GoalTest(DeskTest):
    def look_at(self, desk, row, changes, stocks):
        """Holds the answer to a goal against points 29 and 30, and gives its words."""
        words = row.split(" ")[1:]
        goal = {}
        for text, number in zip(words[0::2], words[1::2]):
            goal[text] = goal.get(text, 0) + int(number)
        kept = self.look(desk)
        told = desk.say(row).split(" ")
        gained = [gains_of(*sides_of(changes[name])) for name in sorted(changes)]
        there = {text for text, many in stocks.items() if many > 0}
        formulas = sorted(there.union(goal, *gained))
        if told[0] == "way":
            times, numbers = int(told[1]), [int(word) for word in told[2:]]
            self.assertGreater(times, 0)
            self.assertEqual(len(numbers), len(changes))
            self.assertGreaterEqual(min(numbers, default=0), 0)
            for text in formulas:
                self.assertEqual(sum(number * each.get(text, 0) for number, each in zip(numbers, gained)),
                                 times * (goal.get(text, 0) - stocks.get(text, 0)))
        else:
            self.assertEqual(told[0], "never")
            self.assertEqual(told[1::2], formulas)
            weights = {text: int(number) for text, number in zip(told[1::2], told[2::2])}
            for each in gained:
                self.assertGreaterEqual(sum(many * weights[text] for text, many in each.items()), 0)
            self.assertLess(sum(weights[text] * many for text, many in goal.items()),
                            sum(weights[text] * stocks[text] for text in there))
        self.assertEqual(desk.say(row).split(" "), told)
        self.assertEqual(self.look(desk), kept)
        return told

    def test_no_changes_and_no_stocks(self):
        desk = Desk()
        self.answers(desk, [("goal A 0", "way 1"), ("goal A 0 B 0 A 0", "way 1")])
        self.assertEqual(self.look_at(desk, "goal A 1", {}, {}), ["never", "A", "-1"])
        desk.say("put A 2")
        self.answers(desk, [("goal A 2", "way 1"), ("goal A 1 A 1", "way 1"), ("goal A 1 B 0 A 1", "way 1")])
        self.assertEqual(self.look_at(desk, "goal A 1", {}, {"A": 2}), ["never", "A", "1"])
        self.assertEqual(self.look_at(desk, "goal A 2 B 1", {}, {"A": 2}), ["never", "A", "0", "B", "-1"])
        self.look_at(desk, "goal N2 0", {}, {"A": 2})

    def test_ways(self):
        desk = self.told("change water " + WATER, "put H2 4", "put O2 2")
        self.answers(desk, [("goal H2O 4", "way 1 2"), ("goal H2O 1 H2O 3", "way 1 2"), ("goal H2 4 O2 2", "way 1 0"),
                            ("goal H2 2 H2O 2 O2 1", "way 1 1")])
        self.answers(self.told("change a 2 A -> 2 B", "put A 1"), [("goal B 1", "way 2 1")])

    def test_never(self):
        desk = self.told("change water " + WATER, "put H2 4")
        told = self.look_at(desk, "goal H2O 4", {"water": WATER}, {"H2": 4})
        self.assertEqual(told[0::2][0], "never")
        self.assertEqual(told[1::2], ["H2", "H2O", "O2"])

    def test_stocks_of_nought_are_not_told(self):
        desk = self.told("put N2 0", "put (A) 1", "change a (A) -> A", "go a", "drop a", "put C 1")
        self.assertEqual(self.look_at(desk, "goal C 2 A 1", {}, {"A": 1, "C": 1}), ["never", "A", "0", "C", "-1"])
        told = self.look_at(desk, "goal C 2 N2 0", {}, {"A": 1, "C": 1})
        self.assertEqual(told[1::2], ["A", "C", "N2"])

    def test_changes_in_the_order_of_their_names(self):
        changes = {"b": "A -> B", "a": "B -> C", "ab": "C -> D", "aa": "D -> E"}
        desk = self.told(*[f"change {name} {text}" for name, text in changes.items()], "put A 1")
        self.answers(desk, [("goal B 1", "way 1 0 0 0 1"), ("goal C 1", "way 1 1 0 0 1"), ("goal D 1", "way 1 1 0 1 1"),
                            ("goal E 1", "way 1 1 1 1 1")])
        for text in "ABCDE":
            self.look_at(desk, f"goal {text} 1", changes, {"A": 1})
        desk.say("drop b")
        self.assertEqual(self.look_at(desk, "goal B 1", {"a": "B -> C", "ab": "C -> D", "aa": "D -> E"}, {"A": 1})[0],
                         "never")
        desk.say("change b A -> B")
        self.answers(desk, [("goal B 1", "way 1 0 0 0 1")])

    def test_written_counts_and_uneven_changes(self):
        desk = self.told("change a 3 A -> 2 B", "put A 3")
        self.answers(desk, [("goal B 2", "way 1 1")])
        self.look_at(desk, "goal A 2 B 1", {"a": "3 A -> 2 B"}, {"A": 3})

    def test_seven_changes_and_more(self):
        desk = Desk()
        changes = {}
        for place, name in enumerate("abcdefg"):
            changes[name] = f"{'ABCDEFG'[place]} -> {'BCDEFGH'[place]}"
            desk.say(f"change {name} {changes[name]}")
        desk.say("put A 2")
        self.assertEqual(self.look_at(desk, "goal H 2", changes, {"A": 2}), ["way", "1"] + ["2"] * 7)
        self.look_at(desk, "goal H 3", changes, {"A": 2})
        desk.say("change h A -> B")
        self.refuse(desk, "goal H 2", TooMany, many=8)
        self.refuse(desk, "goal A 2", TooMany, many=8)
        desk.say("change i A -> B")
        self.refuse(desk, "goal H 2", TooMany, many=9)
        desk.say("change i A -> C")
        self.refuse(desk, "goal H 2", TooMany, many=9)
        # The form is looked at ahead of all, and the texts ahead of how many changes stand.
        self.refuse(desk, "goal H 02", NoRow)
        self.refuse(desk, "goal", NoRow)
        self.refuse(desk, "goal h 2", NoFormula, place=0)
        self.refuse(desk, "goal H 2 A( 2", NoFormula, place=2)
        desk.say("drop h")
        desk.say("drop i")
        self.assertEqual(desk.say("goal H 2"), "way 1 2 2 2 2 2 2 2")

    def test_texts_from_the_left(self):
        desk = self.full_desk()
        self.refuse(desk, "goal A( 1 h 1", NoFormula, place=2)
        self.refuse(desk, "goal h 1 A( 1", NoFormula, place=0)
        self.refuse(desk, "goal A 1 A( 1 h 1", NoFormula, place=2)
        self.refuse(desk, "goal A 1 " + "A" * 401 + " 1 h 1", TooLong, many=401)
        self.refuse(desk, "goal h 1 " + "A" * 401 + " 1", NoFormula, place=0)
        self.refuse(desk, "goal A( 1 h x", NoRow)

    def test_many_goals(self):
        chance = random.Random(101)
        texts = ["A", "B", "C"]
        seen = {"way": 0, "never": 0}
        for each in range(250):
            desk = Desk()
            stocks, changes = {}, {}
            for text in chance.sample(texts, chance.randint(0, 3)):
                stocks[text] = chance.randint(0, 3)
                desk.say(f"put {text} {stocks[text]}")
            for name in chance.sample(NAMES, chance.randint(0, 4)):
                sides = [" + ".join(chance.sample(["A", "2 A", "B", "2 B", "C", "3 C"], chance.randint(1, 2)))
                         for side in range(2)]
                changes[name] = " -> ".join(sides)
                desk.say(f"change {name} {changes[name]}")
            goal = " ".join(f"{chance.choice(texts)} {chance.randint(0, 3)}" for one in range(chance.randint(1, 4)))
            seen[self.look_at(desk, "goal " + goal, changes, stocks)[0]] += 1
        self.assertGreater(min(seen.values()), 15)


class NoRowTest(DeskTest):
    def no_rows(self, rows):
        for desk in (Desk(), self.full_desk()):
            for row in rows:
                with self.subTest(row):
                    self.refuse(desk, row, NoRow)

    def test_first_words(self):
        self.no_rows(["", " ", "  ", "a", "help", "Change a A -> A", "CHANGE a A -> A", "chang a A -> A", " show a",
                      "changes a A -> A", "changea A -> A", "goes a", "g a", "GO a", "Put H2 1", "haves H2", "totals H",
                      "settle a", "kept", "stocks", "went", "gains a", "+", "A -> A", " change a A -> A", "mostly a"])

    def test_numbers_of_words(self):
        self.no_rows(["change", "change a", "drop", "drop a b", "show", "show a b", "show a 1", "balance",
                      "balance a b", "least", "least a", "least a 1 2", "lost", "lost a b", "put", "put H2",
                      "put H2 1 2", "put H2 1 O2 1", "have", "have H2 O2", "have H2 1", "go", "go a 1 2", "go a b",
                      "most", "most a 1", "total", "total H O", "goal", "goal H2", "goal H2 1 O2",
                      "goal H2 1 O2 1 A", "goal 1"])

    def test_blanks(self):
        self.no_rows(["change ", "change  ", "change  A -> A", "drop ", "drop a ", "drop  a", "show a ", "show  a",
                      "balance a ", "balance  a", "least a 1 ", "least a  1", "least  a 1", "least a ", "lost a ",
                      "lost  a", "put H2 1 ", "put H2 ", "put H2  1", "put  H2 1", "have H2 ", "have  H2", "go ",
                      "go a ", "go  a", "go a 1 ", "go a  1", "most a ", "most  a", "total H ", "total  H", "total ",
                      "goal ", "goal H2 1 ", "goal H2  1", "goal  H2 1", "goal H2 ", "goal A 1 B "])

    def test_words_without_signs_as_formulas(self):
        for desk in (Desk(), self.full_desk()):
            for row in ("have ", "put  1", "goal  1", "goal A 1  1", "goal  1 h 1"):
                self.refuse(desk, row, NoFormula, place=0)

    def test_numbers(self):
        for number in NO_NUMBERS:
            self.no_rows([f"put H2 {number}", f"go a {number}", f"go b {number}", f"least a {number}",
                          f"goal H2 {number}", f"goal H2 1 O2 {number}", f"goal H2 {number} O2 1"])

    def test_numbers_that_are_some(self):
        for number in ("0", "1", "8", "9", "10", "100", "1" + "0" * 59, SIXTY):
            desk = self.full_desk()
            self.answers(desk, [(f"put C {number}", "ok"), ("have C", number), (f"go a {number}", "ok"),
                                (f"put C {number}", "ok"), ("have C", str(2 * int(number)))])

    def test_numbers_of_least(self):
        self.no_rows([f"least a {number}" for number in (9, 10, 11, 80, 88, 100, SIXTY)])
        desk = self.full_desk()
        self.answers(desk, [(f"least a {most}", "1 1" if most > 1 else "none") for most in range(9)])
        self.refuse(desk, "least zz 9", NoRow)
        self.refuse(desk, "least zz 8", NoName, name="zz")

    def test_names(self):
        for name in NO_NAMES:
            self.no_rows([f"change {name} A -> A", f"drop {name}", f"show {name}", f"balance {name}", f"least {name} 2",
                          f"lost {name}", f"go {name}", f"go {name} 1", f"most {name}"])

    def test_kinds(self):
        self.no_rows([f"total {kind}" for kind in NO_KINDS])


class RefusedTest(DeskTest):
    def test_no_name(self):
        for desk in (Desk(), self.full_desk()):
            for name in ("z", "zz", "abcdefgh", "waters", "ab", "ok"):
                for row in ("drop {}", "show {}", "balance {}", "least {} 0", "least {} 8", "lost {}", "go {}",
                            "go {} 0", "go {} 5", "most {}"):
                    self.refuse(desk, row.replace("{}", name), NoName, name=name)

    def test_no_row_is_ahead_of_no_name(self):
        desk = self.full_desk()
        for row in ("drop zz ", "show zz zz", "least zz 9", "least zz", "go zz 01", "go zz ", "go zz a", "most zz 1",
                    "balance zz 1", "lost zz zz"):
            self.refuse(desk, row, NoRow)

    def test_no_row_is_ahead_of_texts(self):
        desk = self.full_desk()
        for row in ("put h 01", "put " + "A" * 401 + " x", "change A h", "change abcdefghi " + "A" * 401, "have h h",
                    "goal h 01", "goal h 1 h", "put  ", "goal  "):
            self.refuse(desk, row, NoRow)

    def test_formulas(self):
        desk = self.full_desk()
        for text, place in NO_FORMULAS:
            for row in (f"have {text}", f"put {text} 0", f"put {text} 5", f"goal {text} 1", f"goal A 1 {text} 1"):
                self.refuse(desk, row, NoFormula, place=place)
        for many in (401, 500):
            for row in ("have {}", "put {} 1", "goal {} 1", "goal A 1 {} 1", "goal {} 0 A( 1"):
                self.refuse(desk, row.replace("{}", "A" * many), TooLong, many=many)
                self.refuse(desk, row.replace("{}", "?" * many), TooLong, many=many)

    def test_changes(self):
        desk = self.full_desk()
        for name in ("a", "water", "z"):
            for text, place in NO_CHANGES:
                self.refuse(desk, f"change {name} {text}", NoChange, place=place)
            self.refuse(desk, f"change {name} A" + " + A" * 7 + " -> A", TooMany, many=9)
            self.refuse(desk, f"change {name} A" + " + A" * 8 + " -> h", NoChange, place=37)
            self.refuse(desk, f"change {name} " + "A" * 401, TooLong, many=401)
        self.answers(desk, [("show a", "A -> A"), ("show water", WATER)])

    def test_change_without_a_text_and_without_its_blank(self):
        for desk in (Desk(), self.full_desk()):
            self.refuse(desk, "change a ", NoChange, place=0)
            self.refuse(desk, "change zz ", NoChange, place=0)
            self.refuse(desk, "change a  ", NoChange, place=0)
            self.refuse(desk, "change a", NoRow)
            self.refuse(desk, "change zz", NoRow)

    def test_blanks_of_a_change_are_its_signs(self):
        desk = self.full_desk()
        self.refuse(desk, "change a  A -> B", NoChange, place=0)
        self.refuse(desk, "change a A -> B ", NoChange, place=7)
        self.refuse(desk, "change a A  + B -> B", NoChange, place=2)
        self.refuse(desk, "change a A -> B  + A", NoChange, place=7)

    def test_unbalanced(self):
        desk = self.full_desk()
        for row in ("go b", "go b 0", "go b 1", "go b " + SIXTY, "most b"):
            self.refuse(desk, row, Unbalanced, kind="O", left=2, right=1)
        desk.say("change d H -> H^+")
        for row in ("go d", "go d 0", "most d"):
            self.refuse(desk, row, Unbalanced, kind="+", left=0, right=1)
        self.answers(desk, [("lost d", "+ 0 1"), ("show d", "H -> H^+")])

    def test_short(self):
        desk = self.full_desk()
        self.refuse(desk, "go c", Short, step=0, turn=1, formula="B", lack=1)
        self.refuse(desk, "go water 3", Short, step=0, turn=3, formula="H2", lack=1)
        self.refuse(desk, "go water " + SIXTY, Short, step=0, turn=3, formula="H2", lack=1)
        self.answers(desk, [("go c 0", "ok"), ("go water 2", "ok"), ("have H2", "1"), ("most c", "0")])

    def test_dropped_and_told_again(self):
        desk = self.full_desk()
        self.answers(desk, [("drop a", "ok")])
        for row in ("drop a", "show a", "go a", "go a 0", "most a", "lost a", "balance a", "least a 1"):
            self.refuse(desk, row, NoName, name="a")
        self.answers(desk, [("change a B -> B", "ok"), ("show a", "B -> B"), ("most a", "0"), ("drop a", "ok"),
                            ("change a A -> A", "ok"), ("most a", "ever")])


class TwoDesksTest(DeskTest):
    def test_side_by_side(self):
        one, other = Desk(), Desk()
        self.answers(one, [("change a A -> A", "ok"), ("put A 3", "ok")])
        self.refuse(other, "show a", NoName, name="a")
        self.answers(other, [("have A", "0"), ("total A", "0"), ("change a B -> B", "ok"), ("put A 1", "ok")])
        self.answers(one, [("show a", "A -> A"), ("have A", "3"), ("drop a", "ok")])
        self.answers(other, [("show a", "B -> B"), ("have A", "1"), ("goal A 1", "way 1 0")])
        self.assertEqual(self.look(Desk()), [None] * len(NAMES) + ["0"] * (len(FORMULAS) + len(KINDS)))


class SlowlyTest(DeskTest):
    """Many rows held against a desk that is reckoned slowly from the texts."""

    def slow_say(self, changes, stocks, words):
        """An answer, or the class of the refusal and its fields."""
        head, rest = words[0], words[1:]
        if head == "change":
            changes[rest[0]] = rest[1]
            return "ok"
        if head == "put":
            stocks[rest[0]] = stocks.get(rest[0], 0) + int(rest[1])
            return "ok"
        if head == "have":
            return str(stocks.get(rest[0], 0))
        if head == "total":
            return str(total_of(stocks, rest[0]))
        if rest[0] not in changes:
            return (NoName, {"name": rest[0]})
        text = changes[rest[0]]
        lost = lost_of(*sides_of(text))
        if head == "drop":
            del changes[rest[0]]
            return "ok"
        if head == "show":
            return text
        if head == "lost":
            return "; ".join(f"{kind} {left} {right}" for kind, left, right in lost) or "none"
        if lost:
            return (Unbalanced, dict(zip(("kind", "left", "right"), lost[0])))
        return self.slow_go(stocks, text, int((rest + ["1"])[1]))

    def slow_go(self, stocks, text, times):
        told = turned(stocks, [(text, times)])
        if isinstance(told, tuple):
            return (Short, dict(zip(("step", "turn", "formula", "lack"), told)))
        stocks.clear()
        stocks.update(told)
        return "ok"

    def some_words(self, chance):
        name, text = chance.choice("abcd"), chance.choice(["H2", "O2", "H2O", "H", "H^+", "e^-"])
        number = str(chance.choice([0, 1, 2, 3, 7]))
        change = chance.choice([WATER, SPLIT, "H2 -> 2 H", "2 H -> H2", "H -> H^+ + e^-", "H2 + O2 -> H2O", "H -> H^+",
                                "H^+ + e^- -> H", "3 H + O2 -> O2 + H + H2", "e^- -> 2 e^-"])
        return chance.choice([
            ["change", name, change], ["change", name, change], ["drop", name], ["show", name], ["lost", name],
            ["put", text, number], ["put", text, number], ["have", text], ["total", chance.choice(["H", "O", "+"])],
            ["go", name], ["go", name, number], ["go", name, number], ["go", name],
        ])

    def test_many_rows(self):
        chance = random.Random(102)
        seen = {}
        for each in range(20):
            desk = Desk()
            changes, stocks = {}, {}
            for one in range(120):
                words = self.some_words(chance)
                answer = self.slow_say(changes, stocks, words)
                row = " ".join(words)
                if isinstance(answer, tuple):
                    with self.assertRaises(HallError) as taken:
                        desk.say(row)
                    self.assertEqual((type(taken.exception), vars(taken.exception)), answer, row)
                else:
                    self.assertEqual(desk.say(row), answer, row)
                key = (words[0], answer[0] if isinstance(answer, tuple) else "ok")
                seen[key] = seen.get(key, 0) + 1
            for text in ("H2", "O2", "H2O", "H", "H^+", "e^-"):
                self.assertEqual(desk.say("have " + text), str(stocks.get(text, 0)))
        for key in (("go", "ok"), ("go", NoName), ("go", Unbalanced), ("go", Short), ("drop", "ok"), ("drop", NoName)):
            self.assertGreater(seen[key], 10, key)


if __name__ == "__main__":
    unittest.main()
