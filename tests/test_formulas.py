import inspect
import random
import string
import unittest
from collections import Counter

from balancehall.errors import HallError, NoFormula, TooLong
from balancehall.formulas import Formula, read_formula
from balancehall.parts import Atom, Group, Piece
from texts import Places, begins_formula, is_formula, outline

KINDS = ["C", "Co", "O", "Cob", "H", "He", "Oc", "Uue", "Z", "Azz"]

GOOD = [
    "H2O", "Ca(OH)2", "CuSO4.5H2O", "SO4^2-", "(A(B2)3)", "e^-", "H", "Co", "CO", "Cob", "CoB", "COb", "COB", "H^+",
    "H2", "H10", "H999", "H100", "(H)2", "(H)10", "(H)999", "((((A))))", "((((A2)3)4)5)6", "(A)(B)((C)(D)E)", "A.B",
    "A.2B", "A.10B", "A.999B2.C", "A^-", "A^2-", "A^2+", "A^10-", "A^999+", "A.3(B)2^12-", "KAl(SO4)2.12H2O",
    "Fe(CN)6^4-", "UueUueUue", "HHHH", "A.((((B))))", "((((A)))).2((((B2))))3", "CCoOCobO", "(CCo)2OCob3",
    "A.B.C.D", "((A)2(B)3)4.5(C)^6+",
]

REFUSED = [
    # The document's own examples.
    ("H0", 1), ("H1", 2), ("()", 1), ("A(B", 3), ("", 0),
    # Kinds.
    ("h", 0), ("co", 0), ("Coba", 3), ("COaaa", 4), ("aA", 0), ("2H", 0), ("2", 0), ("H_", 1),
    # Counts.
    ("H01", 1), ("H1000", 4), ("H9999", 4), ("H1A", 2), ("H1(A)", 2), ("H1.A", 2), ("H1^+", 2), ("(H1)", 3), ("H 2", 1),
    ("(H)0", 3), ("(H)1", 4), ("(H)01", 3), ("(H)1000", 6), ("(H)1A", 4), ("H2 ", 2), ("H-1", 1), ("H+2", 1),
    # Groups.
    ("(", 1), (")", 0), ("A)", 1), ("(A))", 3), ("(2A)", 1), ("(A", 2), ("((A)", 4), ("(((((A)))))", 4), ("A(((((B", 5),
    ("((((", 4), ("(((((", 4), ("(((A(B(C))))", 6), ("((((A))))(((((", 13), ("(A.B)", 2), ("(A^+)", 2), ("(^+)", 1),
    ("(.A)", 1), ("(())", 2), ("A.(((((B)))))", 6), ("A.2(((((B", 7), ("A.B.((((A(B", 9), ("A((((B(C", 6),
    # Dots.
    (".", 0), (".A", 0), ("A.", 2), ("A..B", 2), ("A.2", 3), ("A.1", 3), ("A.1B", 3), ("A.0B", 2), ("A.01B", 2),
    ("A.1000B", 5), ("A.2.B", 3), ("A.^+", 2), ("A.2^+", 3), ("A.b", 2), ("A.)", 2), ("A.2)", 3), ("A. B", 2),
    # Charges.
    ("^+", 0), ("^", 0), ("A^", 2), ("A^2", 3), ("A^0+", 2), ("A^1+", 3), ("A^1-", 3), ("A^1", 3), ("A^01-", 2),
    ("A^1000+", 5), ("A^999", 5), ("A^+2", 3), ("A^++", 3), ("A^+-", 3), ("A^2-.B", 4), ("A^-B", 3), ("A^+^+", 3),
    ("A+", 1), ("A-", 1), ("A^A", 2), ("A^2 -", 3), ("A^^+", 2), ("A^-2", 3), ("A^.", 2), ("A^(", 2), ("A^)", 2),
    # The formula without pieces.
    ("e", 1), ("e^", 2), ("e^+", 2), ("e^2-", 2), ("e^1-", 2), ("e^--", 3), ("e^-A", 3), ("e^-.A", 3), ("e2", 1),
    ("e-", 1), ("eH", 1), ("ee^-", 1), ("2e^-", 0), ("(e^-)", 1), ("A.e^-", 2), ("A.2e^-", 3), ("Ae^-e^-", 4),
    ("e^- ", 3), (" e^-", 0), ("E^", 2), ("e^-2", 3),
    # Signs that stand in no formula.
    (" ", 0), ("A ", 1), (" A", 0), ("[A]", 0), ("A,B", 1), ("A*B", 1), ("A -> B", 1), ("A + B", 1), ("~", 0),
]


def flat(tree):
    if isinstance(tree, Atom):
        return [tree.kind] * tree.count
    if isinstance(tree, Formula):
        return [kind for piece in tree.pieces for kind in flat(piece)]
    return [kind for part in tree.parts for kind in flat(part)] * tree.count


def some_part(chance, deep, counts):
    if deep == 0 or chance.random() < 0.6:
        return Atom(chance.choice(KINDS), chance.choice(counts))
    return Group(some_parts(chance, deep - 1, counts), chance.choice(counts))


def some_parts(chance, deep, counts):
    return [some_part(chance, deep, counts) for each in range(chance.randint(1, 3))]


def some_formulas(many, counts):
    chance = random.Random(5)
    told = [Formula([], -1)]
    while len(told) < many:
        pieces = [Piece(some_parts(chance, 4, counts))]
        for each in range(chance.choice([0, 0, 1, 2])):
            pieces.append(Piece(some_parts(chance, 4, counts), chance.choice(counts)))
        formula = Formula(pieces, chance.choice([0, 0, 1, -1, 2, -2, 10, -999, 999]))
        if len(formula.shown()) <= 400:
            told.append(formula)
    return told


class FormulaByHandTest(unittest.TestCase):
    def test_fields(self):
        pieces = [Piece([Atom("Cu")]), Piece([Atom("H", 2), Atom("O")], 5)]
        for formula, charge in ((Formula(pieces), 0), (Formula(pieces, -2), -2), (Formula(pieces=pieces, charge=3), 3)):
            self.assertEqual(sorted(vars(formula)), ["charge", "pieces"])
            self.assertIs(type(formula.pieces), list)
            self.assertEqual(formula.pieces, pieces)
            self.assertEqual(formula.charge, charge)

    def test_arguments(self):
        self.assertEqual(str(inspect.signature(Formula)), "(pieces, charge=0)")
        self.assertEqual(str(inspect.signature(read_formula)), "(text)")

    def test_charges_shown(self):
        pieces = [Piece([Atom("S"), Atom("O", 4)])]
        for charge, behind in (
            (-999, "^999-"), (-10, "^10-"), (-2, "^2-"), (-1, "^-"), (0, ""), (1, "^+"), (2, "^2+"), (10, "^10+"),
            (999, "^999+"),
        ):
            with self.subTest(charge):
                self.assertEqual(Formula(pieces, charge).shown(), "SO4" + behind)

    def test_no_pieces(self):
        formula = Formula([], -1)
        self.assertEqual(formula.shown(), "e^-")
        self.assertEqual(formula.counts(), {})
        self.assertEqual(formula.weight({"e": 5, "+": 7, "H": 9}), -7)
        self.assertEqual(formula.weight({}), 0)

    def test_pieces_shown(self):
        water = [Atom("H", 2), Atom("O")]
        pieces = [Piece([Atom("Cu"), Group([Atom("S"), Atom("O", 4)])]), Piece(water, 5), Piece(water)]
        self.assertEqual(Formula(pieces).shown(), "Cu(SO4).5H2O.H2O")
        self.assertEqual(Formula(pieces, 12).shown(), "Cu(SO4).5H2O.H2O^12+")

    def test_long_and_deep_trees(self):
        pieces = [Piece([Atom("Co", 999)])] + [Piece([Atom("Co", 999)], 999) for each in range(999)]
        formula = Formula(pieces, 999)
        self.assertEqual(formula.shown(), "Co999" + ".999Co999" * 999 + "^999+")
        self.assertEqual(formula.counts(), {"Co": 999 + 999 * 999 * 999})
        part = Atom("H")
        for each in range(40):
            part = Group([part], 2)
        self.assertEqual(Formula([Piece([part])]).shown(), "(" * 40 + "H" + ")2" * 40)

    def test_counts_leave_the_charge_out(self):
        pieces = [Piece([Atom("H", 2), Atom("O")]), Piece([Atom("H"), Group([Atom("H"), Atom("Co")], 3)], 5)]
        for charge in (-999, -1, 0, 1, 2):
            self.assertEqual(Formula(pieces, charge).counts(), {"H": 22, "O": 1, "Co": 15})

    def test_weight(self):
        pieces = [Piece([Atom("H", 2), Atom("O")]), Piece([Atom("H")], 5)]
        weights = {"H": 1, "O": 16, "+": 1000, "C": 5}
        for charge, weight in ((0, 23), (1, 1023), (-1, -977), (-2, -1977), (999, 999023)):
            self.assertEqual(Formula(pieces, charge).weight(weights), weight)
        self.assertEqual(Formula(pieces, -2).weight({"H": 1, "O": 16}), 23)
        self.assertEqual(Formula(pieces, -2).weight({"+": -(10 ** 31)}), 2 * 10 ** 31)
        self.assertEqual(Formula(pieces, 3).weight({}), 0)
        self.assertEqual(Formula(pieces, 3).weight({"H": 10 ** 31, "+": -1}), 7 * 10 ** 31 - 3)

    def test_the_list_changed_behind_changes_nothing(self):
        pieces = [Piece([Atom("H")]), Piece([Atom("O")], 2)]
        kept = list(pieces)
        formula = Formula(pieces, 1)
        pieces.append(Piece([Atom("C")]))
        pieces[0] = Piece([Atom("C")])
        self.assertEqual(formula.pieces, kept)
        self.assertEqual(formula.shown(), "H.2O^+")
        self.assertEqual(formula.counts(), {"H": 1, "O": 2})
        self.assertEqual(formula.weight({"H": 1, "O": 1, "C": 100, "+": 1}), 4)

    def test_the_list_handed_in_stays(self):
        pieces = [Piece([Atom("H")]), Piece([Atom("O")], 2)]
        kept = list(pieces)
        formula = Formula(pieces, 1)
        formula.shown()
        formula.counts()
        weights = {"H": 1, "+": 2}
        formula.weight(weights)
        self.assertEqual(pieces, kept)
        self.assertEqual(list(weights.items()), [("H", 1), ("+", 2)])
        self.assertIsNot(formula.pieces, pieces)
        self.assertIs(formula.pieces[0], kept[0])

    def test_what_is_given_is_the_askers_own(self):
        for formula in (Formula([Piece([Atom("H", 2)])], 1), read_formula("H2^+")):
            told = formula.counts()
            told["H"] = 100
            told["O"] = 1
            self.assertEqual(formula.counts(), {"H": 2})
            self.assertEqual(formula.weight({"H": 1, "O": 1, "+": 1}), 3)
            self.assertEqual(told, {"H": 100, "O": 1})
        empty = Formula([], -1)
        empty.counts()["H"] = 1
        self.assertEqual(empty.counts(), {})


class ReadTest(unittest.TestCase):
    def test_trees_of_the_documents_examples(self):
        self.assertEqual(
            outline(read_formula("H2O")), ("Formula", [("Piece", [("Atom", "H", 2), ("Atom", "O", 1)], 1)], 0)
        )
        self.assertEqual(
            outline(read_formula("Ca(OH)2")),
            ("Formula", [("Piece", [
                ("Atom", "Ca", 1), ("Group", [("Atom", "O", 1), ("Atom", "H", 1)], 2)
            ], 1)], 0),
        )
        self.assertEqual(
            outline(read_formula("CuSO4.5H2O")),
            ("Formula", [
                ("Piece", [("Atom", "Cu", 1), ("Atom", "S", 1), ("Atom", "O", 4)], 1),
                ("Piece", [("Atom", "H", 2), ("Atom", "O", 1)], 5),
            ], 0),
        )
        self.assertEqual(
            outline(read_formula("SO4^2-")), ("Formula", [("Piece", [("Atom", "S", 1), ("Atom", "O", 4)], 1)], -2)
        )
        self.assertEqual(
            outline(read_formula("(A(B2)3)")),
            ("Formula", [("Piece", [
                ("Group", [("Atom", "A", 1), ("Group", [("Atom", "B", 2)], 3)], 1)
            ], 1)], 0),
        )
        self.assertEqual(outline(read_formula("e^-")), ("Formula", [], -1))
        self.assertEqual(outline(read_formula("E^-")), ("Formula", [("Piece", [("Atom", "E", 1)], 1)], -1))

    def test_kinds_that_begin_or_end_one_another(self):
        for text, kinds in (
            ("Co", ["Co"]), ("CO", ["C", "O"]), ("Cob", ["Cob"]), ("CoB", ["Co", "B"]), ("COb", ["C", "Ob"]),
            ("CCoOCobO", ["C", "Co", "O", "Cob", "O"]), ("CobCoC", ["Cob", "Co", "C"]), ("OCCo", ["O", "C", "Co"]),
        ):
            with self.subTest(text):
                parts = read_formula(text).pieces[0].parts
                self.assertEqual([part.kind for part in parts], kinds)
                self.assertEqual([part.count for part in parts], [1] * len(kinds))

    def test_all_letters(self):
        for great in string.ascii_uppercase:
            for small in string.ascii_lowercase:
                for kind in (great, great + small, great + small + "z", great + "z" + small):
                    self.assertEqual(read_formula(kind).counts(), {kind: 1})
                    self.assertEqual(read_formula(kind + "7").counts(), {kind: 7})

    def test_every_count(self):
        for count in range(2, 1000):
            formula = read_formula(f"H{count}(O){count}.{count}C^{count}-")
            parts = formula.pieces[0].parts
            told = [parts[0].count, parts[1].count, formula.pieces[1].count, -formula.charge]
            self.assertEqual(told, [count] * 4)
            self.assertEqual({type(each) for each in told}, {int})

    def test_charges(self):
        for behind, charge in (("", 0), ("^+", 1), ("^-", -1), ("^2+", 2), ("^2-", -2), ("^10+", 10), ("^999+", 999),
                               ("^999-", -999), ("^100-", -100)):
            for ahead in ("H", "H2", "(H)", "(H)2", "A.B", "A.2B3", "Co"):
                with self.subTest(ahead + behind):
                    self.assertEqual(read_formula(ahead + behind).charge, charge)

    def test_trees_made_by_hand_are_read_again_from_their_texts(self):
        for formula in some_formulas(400, [1, 1, 2, 3, 10, 999]):
            text = formula.shown()
            with self.subTest(text):
                self.assertTrue(is_formula(text))
                self.assertEqual(outline(read_formula(text)), outline(formula))

    def test_counts_and_weight_of_what_was_read(self):
        chance = random.Random(6)
        for formula in some_formulas(200, [1, 1, 2, 3]):
            read = read_formula(formula.shown())
            weights = {kind: chance.randint(-10 ** 32, 10 ** 32) for kind in chance.sample(KINDS, 6)}
            alone = sum(weights.get(kind, 0) for kind in flat(formula))
            with self.subTest(formula.shown()):
                self.assertEqual(read.counts(), dict(Counter(flat(formula))))
                self.assertEqual(read.weight(weights), alone)
                weights["+"] = chance.randint(1, 10 ** 32)
                self.assertEqual(read.weight(weights), alone + formula.charge * weights["+"])

    def test_counts_of_known_texts(self):
        for text, counts in (
            ("KAl(SO4)2.12H2O", {"K": 1, "Al": 1, "S": 2, "O": 20, "H": 24}),
            ("((((A2)3)4)5)6", {"A": 720}), ("Fe(CN)6^4-", {"Fe": 1, "C": 6, "N": 6}), ("e^-", {}),
            ("((((A999)999)999)999)999.999((((A999)999)999)999)999", {"A": 999 ** 5 + 999 ** 6}),
        ):
            self.assertEqual(read_formula(text).counts(), counts)
        self.assertEqual(read_formula("Fe(CN)6^4-").weight({"Fe": 56, "C": 12, "N": 14, "+": 1}), 208)
        self.assertEqual(read_formula("Fe(CN)6^4-").weight({"Fe": 56, "C": 12, "N": 14}), 212)
        self.assertEqual(read_formula("e^-").weight({"+": -3}), 3)

    def test_each_call_gives_a_new_tree(self):
        one = read_formula("Ca(OH)2.H2^+")
        other = read_formula("Ca(OH)2.H2^+")
        one.pieces[0].parts[1].parts.append(Atom("C"))
        one.pieces.append(Piece([Atom("C")]))
        self.assertEqual(other.shown(), "Ca(OH)2.H2^+")
        self.assertEqual(read_formula("Ca(OH)2.H2^+").shown(), "Ca(OH)2.H2^+")


class RefusedTest(Places, unittest.TestCase):
    read = staticmethod(read_formula)
    refusal = NoFormula
    begins = staticmethod(begins_formula)
    is_whole = staticmethod(is_formula)
    good = GOOD
    refused = REFUSED
    signs = "().^+-"
    few = "Aae012().^+-"
    longest = 5
    tail = "A"

    def test_texts_of_400_and_401_signs(self):
        for text in ("H" * 400, "Co" * 200, "H2" * 200, "(" + "H" * 398 + ")", "H" * 398 + "^-", "A." * 199 + "A2"):
            with self.subTest(text):
                self.assertEqual(len(text), 400)
                self.assertEqual(read_formula(text).shown(), text)
                with self.assertRaises(TooLong) as taken:
                    read_formula(text + "H")
                self.assertEqual(taken.exception.many, 401)
        self.assertEqual(read_formula("H2" * 200).counts(), {"H": 400})

    def test_too_long_is_ahead_of_all_else(self):
        for text in ("?" * 401, "(" * 401, " " * 401, "H" * 400 + "(", "h" + "H" * 400):
            with self.assertRaises(TooLong) as taken:
                read_formula(text)
            self.assertEqual(taken.exception.many, 401)
        with self.assertRaises(TooLong) as taken:
            read_formula("H" * 5000)
        self.assertEqual(taken.exception.many, 5000)

    def test_how_long_a_beginning_becomes_is_not_looked_at(self):
        for text in ("H" * 399 + "(", "H" * 399 + "1", "H" * 399 + "^", "H" * 399 + ".", "((((" + "H" * 396):
            self.assertEqual(len(text), 400)
            self.assertEqual(self.told_place(text), 400)
        self.assertEqual(self.told_place("(" * 400), 4)
        self.assertEqual(self.told_place("H" * 399 + "?"), 399)

    def test_a_refusal_is_of_its_own_class(self):
        for text, wanted in (("h", NoFormula), ("H" * 401, TooLong)):
            with self.assertRaises(HallError) as taken:
                read_formula(text)
            self.assertIs(type(taken.exception), wanted)
            self.assertIsInstance(taken.exception, ValueError)


if __name__ == "__main__":
    unittest.main()
