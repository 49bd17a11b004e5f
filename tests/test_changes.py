import inspect
import random
import unittest

from balancehall.changes import Change, read_change
from balancehall.errors import HallError, NoChange, TooLong, TooMany
from balancehall.formulas import Formula, read_formula
from balancehall.parts import Atom, Group, Piece
from slowly import columns_of, kinds_of, lost_of
from texts import Places, begins_change, is_change, made, outline, pairs

TWELVE = "999999999999"

GOOD = [
    "A -> B", "2 H2 + O2 -> 2 H2O", "H2O -> H^+ + OH^-", "e^- -> e^-", "2 e^- + Cu^2+ -> Cu", "10 A -> 10 A",
    "A + A -> A + A + A", f"{TWELVE} A -> 100000000000 B", "CuSO4.5H2O -> CuSO4 + 5 H2O",
    "MnO4^- + 8 H^+ + 5 e^- -> Mn^2+ + 4 H2O", "((((A2)3)4)5)6 + 12 B.3C^- -> 19 D^12-",
    "A + B + C + D -> E + F + G + H", "A -> B + C + D + E + F + G + H", "A + B + C + D + E + F + G -> H",
    "11 Co + CO -> 21 Cob", "20 e^- -> 99 A^999+",
]

REFUSED = [
    ("", 0), (" ", 0), ("->", 0), (" -> ", 0), ("+", 0), ("a", 0), ("ee", 1), ("?", 0),
    # Counts.
    ("0 A -> B", 0), ("1 A -> B", 1), ("01 A -> B", 0), ("00 A -> B", 0), ("1234567890123 A -> B", 12),
    ("1000000000000 A -> B", 12), ("A -> 0 B", 5), ("A -> 1 B", 6), ("A -> 01 B", 5), ("A -> 1234567890123 B", 17),
    ("A + 0 B -> C", 4), ("A + 1 B -> C", 5), ("A -> B + 0 C", 9), ("A -> B + 1 C", 10), ("1", 1), ("2", 1), ("12", 2),
    (TWELVE, 12), (TWELVE + "9", 12), ("A -> 1", 6), ("A -> 2", 6), ("A -> 2 ", 7), ("2A -> B", 1), ("2(A) -> B", 1),
    ("2e^- -> B", 1), ("1A -> B", 1), ("2 2 A -> B", 2), ("2 1 A -> B", 2), ("2 0A -> B", 2), ("2  A -> B", 2),
    ("+2 A -> B", 0), ("-2 A -> B", 0), ("2.5 A -> B", 1), ("2 ", 2), ("2 + A -> B", 2), ("2 -> B", 2), ("1 -> B", 1),
    # Blanks.
    (" A -> B", 0), ("A -> B ", 7), ("A  -> B", 2), ("A ->  B", 5), ("A->B", 1), ("A-> B", 1), ("A ->B", 4),
    ("A +B -> C", 3), ("A+ B -> C", 1), ("A  + B -> C", 2), ("A +  B -> C", 4), ("A+B -> C", 1), ("A B -> C", 2),
    ("A -> B +C", 8), ("A -> B+ C", 6), ("A -> B  + C", 7), ("A -> B +  C", 9), ("A -> B C", 7), ("A - > B", 3),
    ("A -> B + ", 9), ("A -> B +", 8), ("A--> B", 1), ("A->", 1),
    # Arrows.
    ("A", 1), ("A + B", 5), ("A ", 2), ("A -", 3), ("A ->", 4), ("A -> ", 5), ("A -> -> B", 5), ("A -> B -> C", 7),
    ("A -> B ->", 7), ("-> B", 0), ("A --> B", 3), ("A => B", 2), ("A <- B", 2), ("A = B", 2), ("A - B", 3),
    ("A > B", 2), ("A -> B -", 7), ("A -> -", 5), ("A -> >", 5), ("A -+ B", 3), ("A +- B", 3), ("A +> B", 3),
    # Joints.
    ("A + ", 4), ("A +", 3), ("+ A -> B", 0), ("A + -> B", 4), ("A + + B -> C", 4), ("A -> + B", 5), ("A ++ B -> C", 3),
    ("A -> B + + C", 9), ("A, B -> C", 1), ("A -> B, C", 6), ("A & B -> C", 2),
    # Formulas.
    ("H0 -> B", 1), ("H1 -> B", 2), ("() -> B", 1), ("A(B -> C", 3), ("A) -> B", 1), ("A -> b", 5), ("A -> B(", 7),
    ("A -> B1", 7), ("A -> B1 + C", 7), ("A. -> B", 2), ("A.2 -> B", 3), ("A^ -> B", 2), ("A^2 -> B", 3),
    ("A^+ + B^", 8), ("e -> B", 1), ("e^ -> B", 2), ("e^+ -> B", 2), ("A -> e", 6), ("A -> e^-2", 8), ("A+ -> B", 1),
    ("A^-> B", 3), ("H1000 -> B", 4), ("(((((A))))) -> B", 4), ("Abcd -> B", 3), ("A -> Abcd", 8), ("A^1+ -> B", 3),
    ("2 h -> B", 2),
]


class ByHandTest(unittest.TestCase):
    def test_arguments(self):
        self.assertEqual(str(inspect.signature(Change)), "(lefts, rights)")
        self.assertEqual(str(inspect.signature(read_change)), "(text)")
        for name in ("shown", "kinds", "columns", "lost"):
            self.assertEqual(str(inspect.signature(getattr(Change, name))), "(self)")

    def test_fields(self):
        lefts = [(2, read_formula("H2")), (1, read_formula("O2"))]
        rights = [(2, read_formula("H2O"))]
        for change in (Change(lefts, rights), Change(lefts=lefts, rights=rights)):
            self.assertEqual(sorted(vars(change)), ["lefts", "rights"])
            self.assertIs(type(change.lefts), list)
            self.assertIs(type(change.rights), list)
            self.assertEqual(change.lefts, lefts)
            self.assertEqual(change.rights, rights)
            self.assertIs(change.lefts[0][1], lefts[0][1])

    def test_lists_changed_behind_change_nothing(self):
        lefts = [(2, read_formula("H2")), (1, read_formula("O2"))]
        rights = [(2, read_formula("H2O"))]
        change = Change(lefts, rights)
        lefts.append((7, read_formula("C")))
        lefts[0] = (9, read_formula("N"))
        rights.clear()
        self.assertEqual(pairs(change.lefts), [(2, "H2"), (1, "O2")])
        self.assertEqual(pairs(change.rights), [(2, "H2O")])
        self.assertEqual(change.shown(), "2 H2 + O2 -> 2 H2O")
        self.assertEqual(change.kinds(), ["H", "O", "+"])
        self.assertEqual(change.columns(), [[2, 0, 0], [0, 2, 0], [-2, -1, 0]])
        self.assertEqual(change.lost(), [])

    def test_lists_handed_in_stay(self):
        lefts = [(2, read_formula("H2")), (1, read_formula("O2"))]
        rights = [(3, read_formula("H2O"))]
        kept = (list(lefts), list(rights))
        change = Change(lefts, rights)
        for each in (change.shown, change.kinds, change.columns, change.lost):
            self.assertEqual(each(), each())
        self.assertEqual((lefts, rights), kept)
        self.assertEqual((change.lefts, change.rights), kept)

    def test_what_is_given_is_the_askers_own(self):
        change = made([(2, "H2"), (1, "O2")], [(3, "H2O")])
        change.kinds().append("C")
        columns = change.columns()
        columns[0][0] = 9
        columns[2].clear()
        columns.pop()
        change.lost().clear()
        self.assertEqual(change.kinds(), ["H", "O", "+"])
        self.assertEqual(change.columns(), [[2, 0, 0], [0, 2, 0], [-2, -1, 0]])
        self.assertEqual(change.lost(), [("H", 4, 6), ("O", 2, 3)])
        self.assertEqual(change.shown(), "2 H2 + O2 -> 3 H2O")

    def test_shown(self):
        for lefts, rights, text in (
            ([(1, "A")], [(1, "B")], "A -> B"),
            ([(2, "A")], [(10, "B")], "2 A -> 10 B"),
            ([(1, "e^-"), (3, "Fe^3+")], [(1, "Fe(CN)6^4-")], "e^- + 3 Fe^3+ -> Fe(CN)6^4-"),
            ([(1, "A"), (1, "A")], [(2, "A"), (1, "A"), (1, "A.2B")], "A + A -> 2 A + A + A.2B"),
            ([(11, "A")], [(100, "B")], "11 A -> 100 B"),
        ):
            self.assertEqual(made(lefts, rights).shown(), text)

    def test_shown_with_counts_of_many_figures(self):
        for figures in (11, 12, 13, 20, 60, 400, 4000):
            great = 10 ** figures - 1
            text = "9" * figures + " A + " + "1" + "0" * (figures - 1) + " B^- -> " + "9" * figures + " C"
            self.assertEqual(made([(great, "A"), (10 ** (figures - 1), "B^-")], [(great, "C")]).shown(), text)

    def test_shown_of_a_long_tree(self):
        formula = Formula([Piece([Group([Atom("Co", 999)], 999)] * 100)], -999)
        text = "(Co999)999" * 100 + "^999-"
        self.assertEqual(Change([(1, formula)], [(2, formula)]).shown(), text + " -> 2 " + text)

    def test_kinds(self):
        for lefts, rights, kinds in (
            (["A"], ["B"], ["A", "B", "+"]),
            (["B"], ["A"], ["A", "B", "+"]),
            (["e^-"], ["e^-"], ["+"]),
            (["e^-", "Cu^2+"], ["Cu"], ["Cu", "+"]),
            (["CoCCobO"], ["Ab", "Z", "C"], ["Ab", "C", "Co", "Cob", "O", "Z", "+"]),
            (["A(B(C(D2)))", "A"], ["B.2A"], ["A", "B", "C", "D", "+"]),
            (["H2O", "H2O"], ["H2O"], ["H", "O", "+"]),
        ):
            change = made([(1, text) for text in lefts], [(5, text) for text in rights])
            self.assertEqual(change.kinds(), kinds)

    def test_columns(self):
        change = made([(1, "MnO4^-"), (8, "H^+"), (5, "e^-")], [(1, "Mn^2+"), (4, "H2O")])
        self.assertEqual(change.kinds(), ["H", "Mn", "O", "+"])
        self.assertEqual(change.columns(), [[0, 1, 4, -1], [1, 0, 0, 1], [0, 0, 0, -1], [0, -1, 0, -2], [-2, 0, -1, 0]])
        self.assertEqual(made([(1, "e^-")], [(3, "e^-")]).columns(), [[-1], [1]])

    def test_columns_of_one_formula_in_several_terms(self):
        change = made([(1, "H2O"), (7, "H2O")], [(1, "H2O"), (2, "O3^2-"), (1, "H2O")])
        self.assertEqual(change.columns(), [[2, 1, 0], [2, 1, 0], [-2, -1, 0], [0, -3, 2], [-2, -1, 0]])

    def test_columns_do_not_look_at_the_counts(self):
        for count in (1, 2, 10 ** 60):
            change = made([(count, "H2"), (1, "O2")], [(count, "H2O")])
            self.assertEqual(change.columns(), [[2, 0, 0], [0, 2, 0], [-2, -1, 0]])

    def test_columns_of_groups_and_pieces(self):
        change = made([(1, "Ca(OH)2.12H2O^2-")], [(1, "((((A999)999)999)999)999^999-")])
        self.assertEqual(change.kinds(), ["A", "Ca", "H", "O", "+"])
        self.assertEqual(change.columns(), [[0, 1, 26, 14, -2], [-(999 ** 5), 0, 0, 0, 999]])

    def test_nothing_lost(self):
        for text in ("2 H2 + O2 -> 2 H2O", "A -> A", "e^- -> e^-", "A + 2 A -> 2 A + A", "H2O -> H^+ + OH^-",
                     "MnO4^- + 8 H^+ + 5 e^- -> Mn^2+ + 4 H2O", "CuSO4.5H2O -> CuSO4 + 5 H2O", "3 AB -> 3 BA"):
            self.assertEqual(read_change(text).lost(), [])

    def test_lost(self):
        for text, lost in (
            ("H2 + O2 -> H2O", [("O", 2, 1)]),
            ("2 H2 + O2 -> H2O", [("H", 4, 2), ("O", 2, 1)]),
            ("A -> B", [("A", 1, 0), ("B", 0, 1)]),
            ("B -> A", [("A", 0, 1), ("B", 1, 0)]),
            ("H -> H^+", [("+", 0, 1)]),
            ("H^- -> H^2-", [("+", -1, -2)]),
            ("e^- -> 2 e^-", [("+", -1, -2)]),
            ("Cu^2+ -> Cu + 2 e^-", [("+", 2, -2)]),
            ("Zn^2+ + 2 e^- -> 2 Cu", [("Cu", 0, 2), ("Zn", 1, 0)]),
            ("3 A + A + 2 B^2- -> A + 5 B + A^+", [("A", 4, 2), ("B", 2, 5), ("+", -4, 1)]),
            ("CoC -> CO", [("Co", 1, 0), ("O", 0, 1)]),
        ):
            with self.subTest(text):
                self.assertEqual(read_change(text).lost(), lost)

    def test_lost_by_great_counts(self):
        change = made([(10 ** 60, "H2"), (1, "H2^-")], [(10 ** 60, "H2^+")])
        self.assertEqual(change.lost(), [("H", 2 * 10 ** 60 + 2, 2 * 10 ** 60), ("+", -1, 10 ** 60)])
        self.assertEqual({type(each) for each in change.lost()}, {tuple})

    def test_many_changes(self):
        chance = random.Random(61)
        texts = ["H2O", "H^+", "e^-", "Co", "CO", "Cob2", "SO4^2-", "A(B2)3", "A.3B^2+", "B", "A"]
        for each in range(300):
            many = chance.randint(2, 8)
            terms = [(chance.choice([1, 1, 2, 3, 12]), chance.choice(texts)) for place in range(many)]
            cut = chance.randint(1, many - 1)
            self.look_at(terms[:cut], terms[cut:])

    def look_at(self, lefts, rights):
        """Holds all that is told of a change against point 18 and point 20."""
        change = made(lefts, rights)
        self.assertEqual(change.kinds(), kinds_of(lefts + rights))
        self.assertEqual(change.columns(), columns_of(lefts, rights))
        self.assertEqual(change.lost(), lost_of(lefts, rights))
        self.assertEqual(pairs(read_change(change.shown()).lefts), lefts)
        self.assertEqual(pairs(read_change(change.shown()).rights), rights)


class ReadTest(unittest.TestCase):
    def test_terms(self):
        for text, lefts, rights in (
            ("A -> B", [(1, "A")], [(1, "B")]),
            ("2 H2 + O2 -> 2 H2O", [(2, "H2"), (1, "O2")], [(2, "H2O")]),
            ("10 A^+ -> 10 e^- + B", [(10, "A^+")], [(10, "e^-"), (1, "B")]),
            (TWELVE + " A -> 100000000000 B", [(10 ** 12 - 1, "A")], [(10 ** 11, "B")]),
            ("A + A -> A + A + A", [(1, "A"), (1, "A")], [(1, "A"), (1, "A"), (1, "A")]),
        ):
            change = read_change(text)
            self.assertIsInstance(change, Change)
            self.assertEqual(pairs(change.lefts), lefts)
            self.assertEqual(pairs(change.rights), rights)
            for term in change.lefts + change.rights:
                self.assertIs(type(term), tuple)
                self.assertIs(type(term[0]), int)

    def test_trees(self):
        change = read_change("3 Ca(OH)2.2H2O^2- + e^- -> SO4^2-")
        told = [outline(formula) for count, formula in change.lefts + change.rights]
        self.assertEqual(told, [outline(read_formula(text)) for text in ("Ca(OH)2.2H2O^2-", "e^-", "SO4^2-")])

    def test_every_count_of_two_figures_and_some_of_more(self):
        more = [10 ** many - 1 for many in range(3, 13)] + [10 ** many for many in range(2, 12)]
        for count in list(range(2, 100)) + more:
            change = read_change(f"A + {count} B -> {count} C")
            self.assertEqual(pairs(change.lefts), [(1, "A"), (count, "B")])
            self.assertEqual(pairs(change.rights), [(count, "C")])

    def test_each_call_gives_a_new_change(self):
        one = read_change("2 H2 + O2 -> 2 H2O")
        other = read_change("2 H2 + O2 -> 2 H2O")
        one.lefts.pop()
        one.rights[0][1].pieces.clear()
        self.assertEqual(other.shown(), "2 H2 + O2 -> 2 H2O")
        self.assertEqual(read_change("2 H2 + O2 -> 2 H2O").shown(), "2 H2 + O2 -> 2 H2O")

    def test_eight_terms_are_read_and_nine_refused(self):
        for lefts in range(1, 9):
            for rights in range(1, 9):
                text = " + ".join(["A"] * lefts) + " -> " + " + ".join(["2 A"] * rights)
                if lefts + rights <= 8:
                    change = read_change(text)
                    self.assertEqual((len(change.lefts), len(change.rights)), (lefts, rights))
                else:
                    self.look_at_too_many(text, lefts + rights)
        self.look_at_too_many("A" + " + A" * 98 + " -> A", 100)

    def look_at_too_many(self, text, many):
        with self.assertRaises(HallError) as taken:
            read_change(text)
        self.assertIs(type(taken.exception), TooMany)
        self.assertEqual(taken.exception.many, many)


class RefusedTest(Places, unittest.TestCase):
    read = staticmethod(read_change)
    refusal = NoChange
    begins = staticmethod(begins_change)
    is_whole = staticmethod(is_change)
    good = GOOD
    refused = REFUSED
    signs = "().^+-> "
    few = "Ae12(^+-> "
    longest = 6
    tail = " -> A"

    def test_too_many_is_behind_no_change(self):
        nine = "A" + " + A" * 8
        for text, place in ((nine, 33), (nine + " -> ", 37), (nine + " -> B -> C", 39), (nine + " -> 1 A", 38),
                            ("A -> " + nine + " ?", 39), (nine + " - B", 35)):
            with self.subTest(text):
                self.assertEqual(self.right_place(text), place)
                self.assertEqual(self.told_place(text), place)

    def test_texts_of_400_and_401_signs(self):
        for text in ("A -> " + "B" * 395, "A" * 395 + " -> B", "2 A + " + "B2" * 194 + " -> DD"):
            with self.subTest(text):
                self.assertEqual(len(text), 400)
                self.assertEqual(read_change(text).shown(), text)
                with self.assertRaises(TooLong) as taken:
                    read_change(text + "H")
                self.assertEqual(taken.exception.many, 401)

    def test_too_long_is_ahead_of_all_else(self):
        for text in ("?" * 401, " " * 401, "A" * 401, "A" + " + A" * 100, "A -> A" + " + A" * 99 + "?"):
            many = len(text)
            self.assertGreater(many, 400)
            with self.assertRaises(HallError) as taken:
                read_change(text)
            self.assertIs(type(taken.exception), TooLong)
            self.assertEqual(taken.exception.many, many)
        with self.assertRaises(TooLong) as taken:
            read_change("A -> B" * 1000)
        self.assertEqual(taken.exception.many, 6000)

    def test_how_long_a_beginning_becomes_is_not_looked_at(self):
        for text in ("A" * 400, "A" * 399 + " ", "A" * 396 + " -> ", "A" * 398 + " +", "A -> " + "B" * 393 + " +",
                     "A -> " + "B" * 394 + "("):
            self.assertEqual(len(text), 400)
            self.assertEqual(self.told_place(text), 400)
        self.assertEqual(self.told_place("A" * 399 + "?"), 399)

    def test_a_refusal_is_of_its_own_class(self):
        for text in ("h -> B", "A", "A -> H1", ""):
            with self.assertRaises(HallError) as taken:
                read_change(text)
            self.assertIs(type(taken.exception), NoChange)
            self.assertIsInstance(taken.exception, ValueError)


if __name__ == "__main__":
    unittest.main()
