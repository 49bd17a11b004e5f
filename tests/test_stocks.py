import inspect
import itertools
import random
import unittest

from balancehall.errors import HallError, NoChange, NoFormula, Short, TooLong, TooMany, Unbalanced
from balancehall.stocks import Store
from slowly import lost_of, sides_of, total_of, turned

SIXTY = 10 ** 60 - 1
WATER = "2 H2 + O2 -> 2 H2O"
SPLIT = "2 H2O -> 2 H2 + O2"
KINDS = ["H", "O", "C", "Cu", "A", "B", "+"]

# Even changes over few formulas, so that rows of them meet one another.
EVEN = [
    WATER, SPLIT, "H2O -> H^+ + OH^-", "H^+ + OH^- -> H2O", "H2 -> 2 H", "2 H -> H2", "H -> H^+ + e^-",
    "H + H -> H2", "3 H2 + H -> H + 3 H2", "H2O + 2 H2 + O2 -> 3 H2O", "H2O + H -> H + H2O", "2 H -> H + H",
    "4 H2 + O2 -> 2 H2O + H2 + H2", "2 H2O + 3 e^- -> 2 H2 + O2 + 3 e^-", "O2 -> O2", "5 H + 2 H2 -> 3 H2 + 3 H",
    "H2O + H^+ + OH^- -> 2 H2O", "O2 + H2 + H2 -> H2O + H2O", "3 H + H2 -> 2 H2 + H",
]
FORMULAS = ["H2", "O2", "H2O", "H", "H^+", "OH^-", "e^-"]

# Texts that `go` refuses, with the class and the fields.
NO_TEXTS = [
    ("", NoChange, {"place": 0}),
    ("H2", NoChange, {"place": 2}),
    ("1 H2 -> H2", NoChange, {"place": 1}),
    ("H2 -> H2 ", NoChange, {"place": 9}),
    ("H -> " + "H" * 396, TooLong, {"many": 401}),
    ("?" * 500, TooLong, {"many": 500}),
    ("H + H + H + H + H -> H + H + H + H", TooMany, {"many": 9}),
    ("H + H + H + H + H -> O + H + H + H", TooMany, {"many": 9}),
    ("H2 + O2 -> H2O", Unbalanced, {"kind": "O", "left": 2, "right": 1}),
    ("2 H2 + O2 -> H2O", Unbalanced, {"kind": "H", "left": 4, "right": 2}),
    ("H -> H^+", Unbalanced, {"kind": "+", "left": 0, "right": 1}),
    ("O -> H^2-", Unbalanced, {"kind": "H", "left": 0, "right": 1}),
    ("12 e^- -> 13 e^-", Unbalanced, {"kind": "+", "left": -12, "right": -13}),
    ("999999999999 A -> 999999999998 A", Unbalanced, {"kind": "A", "left": 10 ** 12 - 1, "right": 10 ** 12 - 2}),
]
NO_FORMULAS = [
    ("", NoFormula, {"place": 0}),
    ("H0", NoFormula, {"place": 1}),
    ("H1", NoFormula, {"place": 2}),
    ("A(B", NoFormula, {"place": 3}),
    ("2 H2", NoFormula, {"place": 0}),
    ("H2 ", NoFormula, {"place": 2}),
    ("h", NoFormula, {"place": 0}),
    (WATER, NoFormula, {"place": 0}),
    ("H" * 401, TooLong, {"many": 401}),
    ("?" * 402, TooLong, {"many": 402}),
]



def taking(taken, given):
    """An even change that takes and gives so many `H`."""
    more = abs(given - taken)
    rest = [(1, "(H)" + (str(more) if more > 1 else ""))] if more else []
    sides = ([(taken, "H")] + rest * (given > taken), [(given, "H")] + rest * (taken > given))
    return " -> ".join(
        " + ".join(f"{count} {text}" if count > 1 else text for count, text in side if count) for side in sides
    )


class StocksTest(unittest.TestCase):
    def look(self, store):
        """All that a store tells."""
        return (store.stocks(), store.went(), [store.total(kind) for kind in KINDS],
                [store.have(text) for text in FORMULAS])

    def refuse(self, store, refusal, fields, call, *args):
        """Twice: what is refused changes nothing."""
        told = self.look(store)
        for each in range(2):
            with self.assertRaises(HallError) as taken:
                call(*args)
            self.assertIs(type(taken.exception), refusal)
            self.assertEqual(vars(taken.exception), fields)
            self.assertEqual(self.look(store), told)

    def short(self, store, fields, call, *args):
        names = ("step", "turn", "formula", "lack")
        self.refuse(store, Short, dict(zip(names, fields)), call, *args)

    def look_at_most(self, stocks, change):
        """Holds how often a change goes against going turn by turn."""
        times = 0
        while times < 40 and isinstance(turned(stocks, [(change, times + 1)]), dict):
            times += 1
        store = Store(stocks)
        told = self.look(store)
        self.assertEqual(store.most(change), None if times == 40 else times, (stocks, change))
        self.assertEqual(self.look(store), told)
        if times < 40:
            self.short(store, turned(stocks, [(change, times + 1)]), store.go, change, times + 1)
            self.short(store, turned(stocks, [(change, times + 1)]), store.go, change, times + 10 ** 59)
        store.go(change, times)
        self.assertEqual(store.stocks(), turned(stocks, [(change, times)]))


class HoldTest(StocksTest):
    def test_arguments(self):
        for call, arguments in (
            (Store, "(amounts=None)"), (Store.have, "(self, text)"), (Store.put, "(self, text, many)"),
            (Store.go, "(self, text, times=1)"), (Store.go_all, "(self, rows)"), (Store.most, "(self, text)"),
            (Store.total, "(self, kind)"), (Store.stocks, "(self)"), (Store.went, "(self)"),
        ):
            self.assertEqual(str(inspect.signature(call)), arguments)

    def test_made_with_nothing(self):
        for store in (Store(), Store(None), Store({}), Store(amounts=None), Store(amounts={})):
            self.assertEqual(store.stocks(), {})
            self.assertEqual(store.went(), [])
            self.assertEqual(store.have("H2"), 0)
            self.assertEqual([store.total(kind) for kind in KINDS], [0] * len(KINDS))
            self.assertEqual(store.most(WATER), 0)

    def test_made_with_amounts(self):
        store = Store({"H2": 3, "O2": 0, "SO4^2-": SIXTY, "e^-": 1})
        self.assertEqual([store.have(text) for text in ("H2", "O2", "SO4^2-", "e^-", "Cu")], [3, 0, SIXTY, 1, 0])
        self.assertEqual(store.stocks(), {"H2": 3, "SO4^2-": SIXTY, "e^-": 1})
        self.assertEqual(store.went(), [])

    def test_a_dict_that_is_changed_behind(self):
        amounts = {"H2": 3, "O2": 0}
        store = Store(amounts)
        amounts["H2"] = 9
        amounts["C"] = 7
        self.assertEqual(store.stocks(), {"H2": 3})
        amounts.clear()
        self.assertEqual([store.have(text) for text in ("H2", "O2", "C")], [3, 0, 0])

    def test_the_dict_handed_in_stays(self):
        amounts = {"H2": 4, "O2": 2, "C": 0}
        store = Store(amounts)
        store.put("H2", 5)
        store.put("N2", 5)
        store.go(WATER, 2)
        self.assertEqual(amounts, {"H2": 4, "O2": 2, "C": 0})
        self.assertEqual(list(amounts), ["H2", "O2", "C"])

    def test_stores_know_nothing_of_one_another(self):
        amounts = {"H2": 2, "O2": 1}
        one, other, third = Store(amounts), Store(amounts), Store()
        one.put("C", 3)
        one.go(WATER)
        self.assertEqual(other.stocks(), {"H2": 2, "O2": 1})
        self.assertEqual(other.went(), [])
        self.assertEqual(self.look(third), self.look(Store()))

    def test_made_with_texts_that_are_no_formulas(self):
        for text, refusal, fields in NO_FORMULAS:
            for amounts in ({text: 1}, {"H2": 5, text: 0}, {text: 2, "A(": 1}):
                with self.assertRaises(HallError) as taken:
                    Store(amounts)
                self.assertIs(type(taken.exception), refusal)
                self.assertEqual(vars(taken.exception), fields)
        with self.assertRaises(NoFormula) as taken:
            Store({"H2": 1, "A(": 1, "": 1})
        self.assertEqual(taken.exception.place, 2)

    def test_put_and_have(self):
        store = Store({"H2": 1})
        self.assertIsNone(store.put("H2", 2))
        self.assertIsNone(store.put("O2", 5))
        store.put("H2", 0)
        store.put("C", 0)
        self.assertEqual([store.have(text) for text in ("H2", "O2", "C", "N2")], [3, 5, 0, 0])
        self.assertEqual(store.stocks(), {"H2": 3, "O2": 5})
        store.put("H2", SIXTY)
        store.put("H2", SIXTY)
        self.assertEqual(store.have("H2"), 2 * SIXTY + 3)
        self.assertEqual(store.went(), [])

    def test_formulas_are_known_by_their_texts(self):
        store = Store({"HO": 1, "OH": 2, "H^+": 3, "H": 4, "Co": 5, "CO": 6, "(H)": 7})
        self.assertEqual([store.have(text) for text in ("HO", "OH", "H^+", "H", "Co", "CO", "(H)", "H^-", "e^-")],
                         [1, 2, 3, 4, 5, 6, 7, 0, 0])
        self.assertEqual((store.total("H"), store.total("C"), store.total("Co")), (17, 6, 5))

    def test_put_and_have_of_texts_that_are_no_formulas(self):
        store = Store({"H2": 2, "O2": 1})
        store.go(WATER)
        for text, refusal, fields in NO_FORMULAS:
            self.refuse(store, refusal, fields, store.have, text)
            self.refuse(store, refusal, fields, store.put, text, 0)
            self.refuse(store, refusal, fields, store.put, text, 5)

    def test_texts_of_400_signs(self):
        text = "H" * 400
        store = Store({text: 2})
        store.put(text, 1)
        self.assertEqual(store.have(text), 3)
        self.assertEqual(store.total("H"), 1200)

    def test_totals(self):
        store = Store({"CuSO4.5H2O": 2, "Ca(OH)2": 3, "SO4^2-": 5, "e^-": 7, "Cu^2+": 1, "A": 0})
        told = [store.total(kind) for kind in ("Cu", "S", "O", "H", "Ca", "A", "C", "e", "+")]
        self.assertEqual(told, [3, 7, 44, 26, 3, 0, 0, 0, -15])
        store = Store({"((((A999)999)999)999)999^999-": SIXTY, "A": 1})
        self.assertEqual(store.total("A"), 999 ** 5 * SIXTY + 1)
        self.assertEqual(store.total("+"), -999 * SIXTY)

    def test_what_is_given_is_the_askers_own(self):
        store = Store({"H2": 4, "O2": 2})
        store.go(WATER)
        stocks, went = store.stocks(), store.went()
        stocks["H2"] = 99
        stocks["C"] = 1
        went.append("x")
        went[0] = ("y", 5)
        self.assertEqual(store.stocks(), {"H2": 2, "O2": 1, "H2O": 2})
        self.assertEqual(store.went(), [(WATER, 1)])
        stocks, went = store.stocks(), store.went()
        store.go(WATER)
        store.put("H2", 7)
        self.assertEqual(stocks, {"H2": 2, "O2": 1, "H2O": 2})
        self.assertEqual(went, [(WATER, 1)])


class GoTest(StocksTest):
    def test_go(self):
        store = Store({"H2": 7, "O2": 3})
        self.assertIsNone(store.go(WATER))
        self.assertEqual(store.stocks(), {"H2": 5, "O2": 2, "H2O": 2})
        self.assertIsNone(store.go(WATER, 2))
        self.assertEqual(store.stocks(), {"H2": 1, "H2O": 6})
        self.assertIsNone(store.go(SPLIT, times=0))
        self.assertEqual(store.stocks(), {"H2": 1, "H2O": 6})
        store.go(SPLIT, 3)
        self.assertEqual(store.stocks(), {"H2": 7, "O2": 3})
        self.assertEqual(store.went(), [(WATER, 1), (WATER, 2), (SPLIT, 0), (SPLIT, 3)])
        self.assertEqual({type(row) for row in store.went()}, {tuple})

    def test_no_times_from_nothing(self):
        store = Store()
        store.go(WATER, 0)
        self.assertEqual(store.stocks(), {})
        self.assertEqual(store.went(), [(WATER, 0)])

    def test_a_formula_that_is_taken_and_given(self):
        change = "H2O + 2 H2 + O2 -> 3 H2O"
        store = Store({"H2": 2, "O2": 1})
        self.short(store, (0, 1, "H2O", 1), store.go, change)
        store = Store({"H2": 20, "O2": 9, "H2O": 1})
        store.go(change, 9)
        self.assertEqual(store.stocks(), {"H2": 2, "H2O": 19})
        # What a turn gives isn't there for itself, but for the next one.
        store = Store({"A": 2, "B": 1})
        self.short(store, (0, 1, "A", 1), store.go, "3 A + B -> B + 3 A")
        store = Store({"AB": 5, "A": 1, "B": 1})
        store.go("AB + A + B -> 2 A + 2 B", 5)
        self.assertEqual(store.stocks(), {"A": 6, "B": 6})

    def test_a_formula_in_several_terms(self):
        store = Store({"H": 5})
        store.go("H + H -> H2")
        self.assertEqual(store.stocks(), {"H": 3, "H2": 1})
        self.short(store, (0, 2, "H", 1), store.go, "H + H -> H2", 2)
        self.short(store, (0, 1, "H", 2), store.go, "H + 2 H + H2 + 2 H -> H2 + 5 H")
        store.go("H + H + H -> H + H2")
        self.assertEqual(store.stocks(), {"H": 1, "H2": 2})
        store.go("H2 + H2 -> H + H2 + H")
        self.assertEqual(store.stocks(), {"H": 3, "H2": 1})

    def test_short_at_the_first_turn(self):
        store = Store({"H2": 1})
        self.short(store, (0, 1, "H2", 1), store.go, WATER)
        self.short(store, (0, 1, "O2", 1), store.go, "O2 + 2 H2 -> 2 H2O")
        self.short(store, (0, 1, "H2", 1), store.go, WATER, SIXTY)
        store = Store({"H2": 5})
        self.short(store, (0, 1, "O2", 1), store.go, WATER)
        store = Store()
        self.short(store, (0, 1, "H2", 2), store.go, WATER)
        self.short(store, (0, 1, "A", 10 ** 12 - 1), store.go, "999999999999 A -> 999999999999 A")

    def test_short_at_a_late_turn(self):
        store = Store({"H2": 10, "O2": 10})
        self.short(store, (0, 6, "H2", 2), store.go, WATER, 6)
        self.short(store, (0, 6, "H2", 2), store.go, WATER, SIXTY)
        store = Store({"H2": 11, "O2": 10})
        self.short(store, (0, 6, "H2", 1), store.go, WATER, 7)
        store = Store({"H2": 10, "O2": 5})
        self.short(store, (0, 6, "H2", 2), store.go, WATER, 6)
        self.short(store, (0, 6, "O2", 1), store.go, "O2 + 2 H2 -> 2 H2O", 6)
        store = Store({"H2": 10, "O2": 4})
        self.short(store, (0, 5, "O2", 1), store.go, WATER, 6)
        # One that comes first in the order lacks only at a later turn.
        store = Store({"A": 9, "B": 3})
        self.short(store, (0, 4, "B", 1), store.go, "A + B -> AB", 20)
        self.short(store, (0, 4, "B", 1), store.go, "B + A -> AB", 20)

    def test_short_where_a_formula_is_given_too(self):
        store = Store({"H": 11, "H2": 2})
        # Each turn takes five and gives three back.
        self.short(store, (0, 5, "H", 2), store.go, "5 H + 2 H2 -> 3 H2 + 3 H", 5)
        store.go("5 H + 2 H2 -> 3 H2 + 3 H", 4)
        self.assertEqual(store.stocks(), {"H": 3, "H2": 6})

    def test_times_of_sixty_figures(self):
        store = Store({"H2": SIXTY, "O2": SIXTY})
        half = SIXTY // 2
        store.go(WATER, half)
        self.assertEqual(store.stocks(), {"H2": 1, "O2": SIXTY - half, "H2O": SIXTY - 1})
        self.short(store, (0, 1, "H2", 1), store.go, WATER, SIXTY)
        store.go(SPLIT, half)
        self.assertEqual(store.stocks(), {"H2": SIXTY, "O2": SIXTY})
        self.short(store, (0, half + 1, "H2", 1), store.go, WATER, SIXTY)
        store.put("H2", SIXTY)
        store.go(WATER, SIXTY)
        self.assertEqual(store.stocks(), {"H2O": 2 * SIXTY})
        self.assertEqual(store.went(), [(WATER, half), (SPLIT, half), (WATER, SIXTY)])
        store = Store({"A": 1})
        store.go("A -> A", SIXTY)
        self.assertEqual(store.stocks(), {"A": 1})
        store = Store({"A2": SIXTY, "A": 10 ** 12 - 1})
        change = "A2 + 999999999999 A -> 999999999999 A + A + A"
        store.go(change, SIXTY)
        self.assertEqual(store.stocks(), {"A": 2 * SIXTY + 10 ** 12 - 1})

    def test_every_small_amount_taken_and_given(self):
        for taken, given in itertools.product(range(1, 5), range(0, 5)):
            change = taking(taken, given)
            self.assertEqual(lost_of(*sides_of(change)), [])
            for amount in range(0, 12):
                self.look_at_most({"H": amount, "(H)": 3, "(H)2": 3, "(H)3": 3}, change)

    def test_refused_texts(self):
        store = Store({"H2": 9, "O2": 9, "H": 9, "A": 10 ** 13, "e^-": 50, "O": 3})
        store.go(WATER)
        for text, refusal, fields in NO_TEXTS:
            with self.subTest(text):
                for times in (0, 1, SIXTY):
                    self.refuse(store, refusal, fields, store.go, text, times)
                self.refuse(store, refusal, fields, store.go, text)
                self.refuse(store, refusal, fields, store.most, text)

    def test_unbalanced_is_ahead_of_short(self):
        store = Store()
        for text, refusal, fields in NO_TEXTS:
            self.refuse(store, refusal, fields, store.go, text, 5)
            self.refuse(store, refusal, fields, store.go, text, 0)
            self.refuse(store, refusal, fields, store.most, text)

    def test_the_first_thing_lost(self):
        for text in ("A + B -> C + D", "B + A^+ -> D + C", "2 H2 + O2 -> H2O^-", "e^- -> A + e^-", "CoO -> COCo"):
            kind, left, right = lost_of(*sides_of(text))[0]
            store = Store({"A": 1, "B": 1})
            self.refuse(store, Unbalanced, {"kind": kind, "left": left, "right": right}, store.go, text)


class GoAllTest(StocksTest):
    def test_no_rows(self):
        store = Store({"H2": 1})
        self.assertIsNone(store.go_all([]))
        self.assertEqual(store.stocks(), {"H2": 1})
        self.assertEqual(store.went(), [])

    def test_several_rows(self):
        store = Store({"H2": 6, "O2": 3})
        rows = [(WATER, 3), (SPLIT, 1), (WATER, 0), (SPLIT, 2), (WATER, 1)]
        self.assertIsNone(store.go_all(rows))
        self.assertEqual(store.stocks(), {"H2": 4, "O2": 2, "H2O": 2})
        self.assertEqual(store.went(), rows)
        store.go(WATER)
        store.go_all(rows[2:3])
        self.assertEqual(store.went(), rows + [(WATER, 1), (WATER, 0)])
        self.assertEqual(rows, [(WATER, 3), (SPLIT, 1), (WATER, 0), (SPLIT, 2), (WATER, 1)])

    def test_rows_changed_behind(self):
        store = Store({"H2": 6, "O2": 3})
        rows = [(WATER, 1)]
        store.go_all(rows)
        rows.append((SPLIT, 1))
        rows[0] = (SPLIT, 5)
        self.assertEqual(store.went(), [(WATER, 1)])

    def test_short_at_a_later_step(self):
        store = Store({"H2": 4, "O2": 2})
        self.short(store, (1, 3, "H2O", 2), store.go_all, [(WATER, 2), (SPLIT, 3)])
        self.short(store, (2, 1, "H2", 2), store.go_all, [(WATER, 1), (WATER, 1), (WATER, 1)])
        self.short(store, (3, 2, "H2O", 1), store.go_all,
                   [(WATER, 1), (SPLIT, 0), ("H2O -> H^+ + OH^-", 1), ("H2O -> H^+ + OH^-", 2)])
        self.short(store, (0, 1, "H2O", 2), store.go_all, [(SPLIT, 1), (SPLIT, 1)])
        store.go_all([(WATER, 2), (SPLIT, 2)])
        self.assertEqual(store.stocks(), {"H2": 4, "O2": 2})

    def test_a_later_row_does_not_lend(self):
        store = Store({"H2O": 2})
        self.short(store, (0, 1, "H2", 2), store.go_all, [(WATER, 1), (SPLIT, 1)])
        store.go_all([(SPLIT, 1), (WATER, 1)])
        self.assertEqual(store.stocks(), {"H2O": 2})

    def test_a_refused_text_behind_a_good_one(self):
        store = Store({"H2": 4, "O2": 2})
        for text, refusal, fields in NO_TEXTS:
            for rows in ([(WATER, 1), (text, 1)], [(WATER, 1), (WATER, 1), (text, 0)], [(text, 1), (WATER, 1)],
                         [(WATER, SIXTY), (text, 1)], [(SPLIT, 1), (text, 0), (WATER, 1)]):
                self.refuse(store, refusal, fields, store.go_all, rows)

    def test_the_first_refused_text(self):
        store = Store({"H2": 4, "O2": 2})
        for one, other in itertools.permutations(NO_TEXTS, 2):
            self.refuse(store, one[1], one[2], store.go_all, [(WATER, 9), (one[0], 0), (other[0], 1)])

    def test_times_of_sixty_figures(self):
        store = Store({"H2": 2 * SIXTY, "O2": SIXTY})
        store.go_all([(WATER, SIXTY), (SPLIT, SIXTY), (WATER, SIXTY - 1)])
        self.assertEqual(store.stocks(), {"H2": 2, "O2": 1, "H2O": 2 * SIXTY - 2})
        self.short(store, (1, SIXTY + 1, "H2O", 2), store.go_all, [(WATER, 1), (SPLIT, SIXTY + 1)])


class MostTest(StocksTest):
    def test_most(self):
        store = Store({"H2": 7, "O2": 5, "A": 1})
        for change, times in ((WATER, 3), (SPLIT, 0), ("H2 -> 2 H", 7), ("A -> A", None), ("O2 -> O2", None),
                              ("B -> B", 0), ("A + H2 -> H2 + A", None), ("2 A -> 2 A", 0), ("A + B -> B + A", 0),
                              ("A + H2 -> 2 H + A", 7), ("7 H2 -> 7 H2", None), ("8 H2 -> 8 H2", 0),
                              ("7 H2 -> 6 H2 + H2", None), ("7 H2 -> 6 H2 + 2 H", 1), ("H2 + H2 -> 4 H", 3)):
            self.assertEqual(store.most(change), times, change)
        self.assertEqual(store.went(), [])

    def test_most_of_sixty_figures(self):
        store = Store({"H2": SIXTY, "O2": SIXTY})
        self.assertEqual(store.most(WATER), SIXTY // 2)
        self.assertEqual(store.most("H2 -> 2 H"), SIXTY)
        store.go(WATER, SIXTY // 2)
        self.assertEqual(store.most(WATER), 0)
        self.assertEqual(store.most(SPLIT), SIXTY // 2)

    def test_a_formula_that_grows(self):
        store = Store({"A": 1, "A2": 5})
        # Of `A` there is more behind each turn; what bounds it is `A2`.
        self.assertEqual(store.most("A + A2 -> 3 A"), 5)
        self.assertEqual(Store({"A2": 5}).most("A + A2 -> 3 A"), 0)


class SlowlyTest(StocksTest):
    """Stores held against going turn by turn."""

    def some_rows(self, chance):
        return [(chance.choice(EVEN), chance.choice([0, 1, 1, 2, 3, 7])) for each in range(chance.randint(1, 4))]

    def some_stocks(self, chance):
        return {text: chance.choice([0, 1, 2, 5, 9, 20]) for text in FORMULAS if chance.random() < 0.8}

    def test_changes_are_even(self):
        for text in EVEN:
            self.assertEqual(lost_of(*sides_of(text)), [])

    def test_many_rows(self):
        chance = random.Random(81)
        seen = {True: 0, False: 0}
        for each in range(600):
            stocks, rows = self.some_stocks(chance), self.some_rows(chance)
            told = turned(stocks, rows)
            store = Store(stocks)
            seen[isinstance(told, dict)] += 1
            if isinstance(told, dict):
                store.go_all(rows)
                self.assertEqual(store.stocks(), told)
                self.assertEqual(store.went(), rows)
            else:
                self.short(store, told, store.go_all, rows)
            for kind in KINDS:
                self.assertEqual(store.total(kind), total_of(stocks, kind))
        self.assertGreater(min(seen.values()), 100)

    def test_many_goes_of_one_store(self):
        chance = random.Random(82)
        store = Store({"H2": 30, "O2": 20, "H": 3, "e^-": 4})
        there = {"H2": 30, "O2": 20, "H": 3, "e^-": 4}
        went = []
        for each in range(400):
            if chance.random() < 0.05:
                text = chance.choice(FORMULAS)
                store.put(text, 2)
                there[text] = there.get(text, 0) + 2
            totals = [store.total(kind) for kind in KINDS]
            row = (chance.choice(EVEN), chance.choice([0, 1, 2, 5]))
            told = turned(there, [row])
            if isinstance(told, dict):
                store.go(row[0], row[1])
                there = told
                went.append(row)
            else:
                self.short(store, told, store.go, row[0], row[1])
            self.assertEqual(store.stocks(), {text: many for text, many in there.items() if many > 0})
            self.assertEqual([store.total(kind) for kind in KINDS], totals)
            self.assertEqual(totals, [total_of(there, kind) for kind in KINDS])
        self.assertEqual(store.went(), went)
        self.assertGreater(len(went), 100)

    def test_most(self):
        chance = random.Random(83)
        for each in range(150):
            stocks = self.some_stocks(chance)
            self.look_at_most(stocks, chance.choice(EVEN))

    def test_orders_of_one_row(self):
        chance = random.Random(84)
        both = 0
        for each in range(150):
            stocks, rows = self.some_stocks(chance), self.some_rows(chance)[:3]
            left = []
            for order in itertools.permutations(rows):
                store = Store(stocks)
                if isinstance(turned(stocks, order), dict):
                    store.go_all(list(order))
                    left.append(store.stocks())
                    one_by_one = Store(stocks)
                    for text, times in order:
                        one_by_one.go(text, times)
                    self.assertEqual(one_by_one.stocks(), store.stocks())
                    self.assertEqual(one_by_one.went(), store.went())
                else:
                    self.short(store, turned(stocks, order), store.go_all, list(order))
            for other in left[1:]:
                self.assertEqual(other, left[0])
            both += len(left) > 1 and left[0] != {text: many for text, many in stocks.items() if many > 0}
        self.assertGreater(both, 10)


if __name__ == "__main__":
    unittest.main()
