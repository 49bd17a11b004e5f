import inspect
import random
import unittest
from collections import Counter

from balancehall.parts import Atom, Group, Part, Piece

KINDS = ["C", "Co", "O", "Oc", "H", "He", "Cob", "Uue", "Z", "Azz"]


def flat(part):
    """All atoms of a tree one by one, a way of counting that shares nothing with the program's."""
    if isinstance(part, Atom):
        return [part.kind] * part.count
    return [kind for inner in part.parts for kind in flat(inner)] * part.count


def some_parts(chance, deep):
    return [some_part(chance, deep) for each in range(chance.randint(1, 3))]


def some_part(chance, deep):
    count = chance.choice([1, 1, 2, 3, 5])
    if deep == 0 or chance.random() < 0.5:
        return Atom(chance.choice(KINDS), count)
    return Group(some_parts(chance, deep - 1), count)


def some_pieces(many):
    chance = random.Random(4)
    return [Piece(some_parts(chance, 4), chance.choice([1, 2, 7])) for each in range(many)]


def four_deep():
    inner = Group([Atom("A", 2), Group([Atom("Co"), Atom("A", 3)], 10)], 2)
    return Group([Group([inner, Atom("C")], 3), Atom("O")], 5)


class AtomTest(unittest.TestCase):
    def test_fields(self):
        self.assertEqual(vars(Atom("Co", 3)), {"kind": "Co", "count": 3})
        self.assertEqual(vars(Atom(kind="Uue", count=2)), {"kind": "Uue", "count": 2})

    def test_the_count_left_out_is_one(self):
        self.assertEqual(vars(Atom("H")), {"kind": "H", "count": 1})

    def test_it_is_a_part(self):
        self.assertIsInstance(Atom("H"), Part)
        self.assertNotIsInstance(Atom("H"), (Group, Piece))

    def test_shown(self):
        for kind in KINDS:
            for count, behind in ((1, ""), (2, "2"), (10, "10"), (999, "999")):
                with self.subTest(kind=kind, count=count):
                    self.assertEqual(Atom(kind, count).shown(), kind + behind)
        self.assertEqual(Atom("Co").shown(), "Co")

    def test_counts(self):
        for kind in KINDS:
            self.assertEqual(Atom(kind).counts(), {kind: 1})
            for count in (1, 2, 10, 999):
                self.assertEqual(Atom(kind, count).counts(), {kind: count})

    def test_counts_are_a_plain_dict_of_whole_numbers(self):
        counts = Atom("H").counts()
        self.assertIs(type(counts), dict)
        self.assertIs(type(counts["H"]), int)

    def test_weight(self):
        self.assertEqual(Atom("Co", 3).weight({"Co": 7}), 21)
        self.assertEqual(Atom("Co").weight({"Co": 7}), 7)
        self.assertEqual(Atom("Co", 999).weight({"Co": -2}), -1998)
        self.assertEqual(Atom("Co", 10).weight({"Co": 10 ** 30 + 1}), 10 ** 31 + 10)
        self.assertEqual(Atom("Co", 2).weight({"Co": -(10 ** 40)}), -2 * 10 ** 40)

    def test_what_is_not_in_the_weights_weighs_nothing(self):
        self.assertEqual(Atom("Co", 3).weight({}), 0)
        self.assertEqual(Atom("Co", 3).weight({"C": 5, "O": 6, "+": 7, "Cob": 8}), 0)
        self.assertEqual(Atom("C", 3).weight({"Co": 5, "Cob": 6, "O": 7, "+": 8}), 0)
        self.assertEqual(Atom("C", 3).weight({"Co": 5, "C": 2, "+": 8}), 6)


class ManyPartsTest(unittest.TestCase):
    def test_fields(self):
        for made in (Group, Piece):
            parts = [Atom("C"), Atom("O", 2)]
            for whole, count in ((made(parts), 1), (made(parts, 3), 3), (made(parts=parts, count=9), 9)):
                with self.subTest(made=made, count=count):
                    self.assertEqual(sorted(vars(whole)), ["count", "parts"])
                    self.assertIs(type(whole.parts), list)
                    self.assertEqual(whole.parts, parts)
                    self.assertEqual(whole.count, count)

    def test_they_are_parts_each_of_its_own_class(self):
        self.assertIsInstance(Group([Atom("H")]), Part)
        self.assertIsInstance(Piece([Atom("H")]), Part)
        self.assertNotIsInstance(Group([Atom("H")]), Piece)
        self.assertNotIsInstance(Piece([Atom("H")]), Group)

    def test_arguments(self):
        for made, first in ((Atom, "kind"), (Group, "parts"), (Piece, "parts")):
            self.assertEqual(str(inspect.signature(made)), f"({first}, count=1)")

    def test_a_groups_count_is_shown_behind(self):
        parts = [Atom("O"), Atom("H", 2), Atom("Co")]
        self.assertEqual(Group(parts).shown(), "(OH2Co)")
        self.assertEqual(Group(parts, 2).shown(), "(OH2Co)2")
        self.assertEqual(Group(parts, 10).shown(), "(OH2Co)10")
        self.assertEqual(Group(parts, 999).shown(), "(OH2Co)999")

    def test_a_pieces_count_is_shown_ahead(self):
        parts = [Atom("H", 2), Atom("O")]
        self.assertEqual(Piece(parts).shown(), "H2O")
        self.assertEqual(Piece(parts, 5).shown(), "5H2O")
        self.assertEqual(Piece(parts, 999).shown(), "999H2O")
        self.assertEqual(Piece([Group(parts, 3), Atom("C")], 4).shown(), "4(H2O)3C")

    def test_the_order_is_kept(self):
        names = ["C", "Co", "O", "C", "H", "C"]
        piece = Piece([Atom(name) for name in names])
        self.assertEqual([part.kind for part in piece.parts], names)
        self.assertEqual(piece.shown(), "CCoOCHC")

    def test_groups_four_deep(self):
        self.assertEqual(four_deep().shown(), "(((A2(CoA3)10)2C)3O)5")
        self.assertEqual(four_deep().counts(), {"A": 960, "Co": 300, "C": 15, "O": 5})
        self.assertEqual(Piece([four_deep(), Atom("O")], 2).counts(), {"A": 1920, "Co": 600, "C": 30, "O": 12})
        self.assertEqual(four_deep().weight({"A": 1, "Co": -2, "O": 10 ** 31, "+": 3}), 360 + 5 * 10 ** 31)

    def test_groups_deeper_than_texts_have_them(self):
        part = Atom("H", 2)
        for each in range(40):
            part = Group([part], 2)
        self.assertEqual(part.shown(), "(" * 40 + "H2" + ")2" * 40)
        self.assertEqual(part.counts(), {"H": 2 ** 41})

    def test_greatest_counts(self):
        part = Piece([Group([Group([Atom("H", 999)], 999)], 999), Atom("H")], 999)
        self.assertEqual(part.counts(), {"H": 999 ** 4 + 999})

    def test_the_same_kind_is_added_up(self):
        parts = [Atom("C"), Atom("H", 3), Atom("C"), Group([Atom("H", 2), Atom("Co")], 4), Atom("H")]
        for made in (Group, Piece):
            self.assertEqual(made(parts).counts(), {"C": 2, "H": 12, "Co": 4})
            self.assertEqual(made(parts, 3).counts(), {"C": 6, "H": 36, "Co": 12})

    def test_the_same_part_in_several_places(self):
        part = Group([Atom("H", 2), Atom("O")], 3)
        self.assertEqual(Group([part, part], 2).counts(), {"H": 24, "O": 12})
        self.assertEqual(Piece([part, Atom("O"), part]).shown(), "(H2O)3O(H2O)3")

    def test_a_part_alone(self):
        self.assertEqual(Group([Atom("He")]).counts(), {"He": 1})
        self.assertEqual(Group([Atom("He")]).shown(), "(He)")
        self.assertEqual(Piece([Atom("He")]).counts(), {"He": 1})
        self.assertEqual(Piece([Atom("He")]).shown(), "He")

    def test_weight(self):
        parts = [Atom("Ca"), Group([Atom("O"), Atom("H")], 2)]
        weights = {"Ca": 40, "O": 16, "H": 1, "+": 1000, "C": 1000}
        for made in (Group, Piece):
            self.assertEqual(made(parts).weight(weights), 74)
            self.assertEqual(made(parts, 3).weight(weights), 222)
            self.assertEqual(made(parts, 3).weight({"H": -(10 ** 31), "O": 10 ** 31 + 1}), 6)
            self.assertEqual(made(parts, 3).weight({"O": 1}), 6)
            self.assertEqual(made(parts, 3).weight({"+": 5, "C": 7, "a": 9}), 0)
            self.assertEqual(made(parts, 3).weight({}), 0)

    def test_long_trees(self):
        piece = Piece([Atom("Co", 999) for each in range(3000)], 999)
        self.assertEqual(piece.shown(), "999" + "Co999" * 3000)
        self.assertEqual(piece.counts(), {"Co": 999 * 999 * 3000})


class ManyTreesTest(unittest.TestCase):
    def test_counts_are_of_all_atoms(self):
        for piece in some_pieces(300):
            with self.subTest(piece.shown()):
                self.assertEqual(piece.counts(), dict(Counter(flat(piece))))

    def test_weight_is_the_sum_of_all_atoms(self):
        chance = random.Random(8)
        for piece in some_pieces(300):
            weights = {kind: chance.randint(-10 ** 32, 10 ** 32) for kind in chance.sample(KINDS, 6)}
            weights["+"] = chance.randint(1, 10 ** 32)
            with self.subTest(piece.shown()):
                self.assertEqual(piece.weight(weights), sum(weights.get(kind, 0) for kind in flat(piece)))

    def test_shown_holds_each_part_in_order(self):
        for piece in some_pieces(300):
            ahead = "" if piece.count == 1 else str(piece.count)
            self.assertEqual(piece.shown(), ahead + "".join(part.shown() for part in piece.parts))


class BelongingTest(unittest.TestCase):
    def test_the_list_changed_behind_changes_nothing(self):
        for made in (Group, Piece):
            parts = [Atom("C"), Atom("O", 2)]
            kept = list(parts)
            whole = made(parts, 3)
            before = (whole.shown(), whole.counts(), whole.weight({"C": 1, "H": 5}))
            parts.append(Atom("H"))
            parts[0] = Atom("H")
            self.assertEqual((whole.shown(), whole.counts(), whole.weight({"C": 1, "H": 5})), before)
            self.assertEqual(whole.parts, kept)

    def test_the_list_handed_in_stays_as_it_was(self):
        parts = [Atom("C"), Group([Atom("O")], 2)]
        kept = list(parts)
        for made in (Group, Piece):
            whole = made(parts, 3)
            whole.shown()
            whole.counts()
            whole.weight({"C": 1})
            self.assertEqual(parts, kept)
            self.assertIsNot(whole.parts, parts)

    def test_the_parts_themselves_are_kept(self):
        inner = Atom("C")
        for made in (Group, Piece):
            self.assertIs(made([inner]).parts[0], inner)

    def test_one_list_for_two(self):
        parts = [Atom("C")]
        self.assertIsNot(Group(parts).parts, Group(parts).parts)

    def trees(self):
        return [Atom("C", 2), Group([Atom("C", 2)]), Piece([Atom("C", 2)]), Piece([Group([Atom("C")], 2)])]

    def test_counts_changed_by_the_asker_change_no_later_answer(self):
        for tree in self.trees():
            told = tree.counts()
            told["C"] = 100
            told["H"] = 1
            self.assertEqual(tree.counts(), {"C": 2})
            self.assertEqual(tree.weight({"C": 3, "H": 1000}), 6)

    def test_inner_counts_changed_by_the_asker_change_no_outer_answer(self):
        inner = Group([Atom("C", 2)], 3)
        outer = Piece([inner, Atom("H")], 2)
        inner.counts().clear()
        outer.counts().clear()
        inner.parts[0].counts().clear()
        self.assertEqual(outer.counts(), {"C": 12, "H": 2})
        self.assertEqual(inner.counts(), {"C": 6})

    def test_each_call_gives_a_new_dict(self):
        for tree in self.trees():
            self.assertIsNot(tree.counts(), tree.counts())

    def test_earlier_answers_stay(self):
        for tree in self.trees():
            told = tree.counts()
            tree.weight({"C": 1})
            tree.counts()["C"] = 9
            Piece([tree], 5).counts()
            self.assertEqual(told, {"C": 2})

    def test_the_weights_stay_as_they_were(self):
        for tree in self.trees() + [four_deep()]:
            weights = {"C": 3, "+": 1, "Zz": 0}
            tree.weight(weights)
            self.assertEqual(list(weights.items()), [("C", 3), ("+", 1), ("Zz", 0)])

    def test_asked_twice_the_answer_is_the_same(self):
        for tree in self.trees() + [four_deep()] + some_pieces(40):
            weights = {"C": 3, "H": -(10 ** 31), "+": 1}
            self.assertEqual(tree.shown(), tree.shown())
            self.assertEqual(tree.counts(), tree.counts())
            self.assertEqual(tree.weight(weights), tree.weight(weights))
            self.assertEqual(tree.weight({}), 0)


if __name__ == "__main__":
    unittest.main()
