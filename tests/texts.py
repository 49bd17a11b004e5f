"""What texts are formulas and changes, told by patterns that share nothing with the program; and the tests of both."""

import re

from balancehall.changes import Change
from balancehall.formulas import Formula, read_formula
from balancehall.parts import Atom

SIGNS = [chr(code) for code in range(ord(" "), ord("~") + 1)]
COUNT = "(?:[1-9][0-9]{1,2}|[2-9])"
TERM_COUNT = "(?:[1-9][0-9]{1,11}|[2-9])"


def formula_pattern():
    atom = f"[A-Z][a-z]{{0,2}}{COUNT}?"
    part = atom
    for each in range(4):
        part = rf"(?:{atom}|\((?:{part})+\){COUNT}?)"
    piece = f"(?:{part})+"
    return rf"(?:{piece}(?:\.{COUNT}?{piece})*(?:\^{COUNT}?[+-])?|e\^-)"


def change_pattern():
    term = f"(?:{TERM_COUNT} )?{formula_pattern()}"
    side = rf"{term}(?: \+ {term})*"
    return f"{side} -> {side}"


FORMULA = re.compile(formula_pattern())
CHANGE = re.compile(change_pattern())

# Whatever begins a formula, or a change, becomes one by one of these behind it.
FORMULA_ENDINGS = [head + ")" * deep for head in ("", "0", "A", "0A", "+", "0+", "^-", "-") for deep in range(5)]
CHANGE_ENDINGS = [
    head + tail for head in FORMULA_ENDINGS + ["0 A", " A", " + A", "+ A"] for tail in ("", " -> A")
] + ["-> A", "> A"]


def is_formula(text):
    return FORMULA.fullmatch(text) is not None


def is_change(text):
    return CHANGE.fullmatch(text) is not None


def begins_formula(text):
    return any(is_formula(text + ending) for ending in FORMULA_ENDINGS)


def begins_change(text):
    return any(is_change(text + ending) for ending in CHANGE_ENDINGS)


def first_wrong(text, begins, is_whole):
    """None where the text is a whole one."""
    for place in range(len(text)):
        if not begins(text[:place + 1]):
            return place
    return None if is_whole(text) else len(text)


class Places:
    """The tests of places that formulas and changes share. A test case under it has these values:
    `read`, `refusal`, `begins`, `is_whole`; `good`, texts that are read; `refused`, tuples (text, place); `signs`,
    those that stand in such texts besides letters and figures; `few`, the signs of which all short texts are made, up
    to `longest` signs; `tail`, signs that may stand behind a wrong one.
    """

    def right_place(self, text):
        return first_wrong(text, self.begins, self.is_whole)

    def told_place(self, text):
        try:
            self.read(text)
        except self.refusal as taken:
            return taken.place
        return None

    def hold(self, text):
        self.assertEqual(self.told_place(text), self.right_place(text), text)

    def test_places(self):
        for text, place in self.refused:
            with self.subTest(text):
                self.assertEqual(self.right_place(text), place)
                self.assertEqual(self.told_place(text), place)
                self.assertEqual(self.told_place(text), place)

    def test_each_read_text_is_shown_again(self):
        for text in self.good:
            with self.subTest(text):
                self.assertTrue(self.is_whole(text))
                self.assertEqual(self.read(text).shown(), text)

    def test_cut_behind_each_sign(self):
        for text in self.good:
            for end in range(len(text)):
                with self.subTest(text[:end]):
                    self.assertTrue(self.begins(text[:end]))
                    self.assertEqual(self.told_place(text[:end]), None if self.is_whole(text[:end]) else end)

    def test_a_strange_sign_at_each_place(self):
        strange = [sign for sign in SIGNS if not sign.isalnum() and sign not in self.signs]
        self.assertEqual(len(strange), 95 - 62 - len(self.signs))
        for text in self.good:
            for place in range(len(text) + 1):
                for sign in strange:
                    self.assertEqual(self.told_place(text[:place] + sign + text[place:]), place)

    def test_any_sign_at_each_place(self):
        for text in self.good[:10]:
            for place in range(len(text) + 1):
                for sign in "AaeZ0123> " + self.signs:
                    self.hold(text[:place] + sign + text[place:])

    def test_any_sign_left_out_or_told_twice(self):
        for text in self.good:
            for place in range(len(text)):
                self.hold(text[:place] + text[place + 1:])
                self.hold(text[:place] + text[place] + text[place:])

    def test_all_short_texts(self):
        beginnings = [""]
        for length in range(self.longest):
            longer = []
            for text in beginnings:
                for sign in SIGNS if length < 3 else self.few:
                    self.hold_longer(text + sign)
                    if sign in self.few and self.begins(text + sign):
                        longer.append(text + sign)
            beginnings = longer
        self.assertGreater(len(beginnings), 500)

    def hold_longer(self, text):
        """Of a text whose last sign alone may be wrong: looked at without asking for each of its beginnings."""
        if not self.begins(text):
            self.assertEqual(self.told_place(text), len(text) - 1, text)
            self.assertEqual(self.told_place(text + self.tail), len(text) - 1, text)
        else:
            self.assertEqual(self.told_place(text), None if self.is_whole(text) else len(text), text)


def made(lefts, rights):
    """A change by hand, of pairs of a count and a formula's text."""
    return Change([(count, read_formula(text)) for count, text in lefts],
                  [(count, read_formula(text)) for count, text in rights])


def pairs(terms):
    return [(count, formula.shown()) for count, formula in terms]


def outline(tree):
    name = type(tree).__name__
    if isinstance(tree, Atom):
        return (name, tree.kind, tree.count)
    if isinstance(tree, Formula):
        return (name, [outline(piece) for piece in tree.pieces], tree.charge)
    return (name, [outline(part) for part in tree.parts], tree.count)
