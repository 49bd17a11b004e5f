"""Formulas: pieces and a charge, and the reading of them from their texts."""

from balancehall.errors import NoFormula, TooLong
from balancehall.marks import CHARGE_MARK, GROUP_BEGIN, GROUP_END, MINUS, PIECE_DOT, PLUS
from balancehall.marks import count_shown, is_figure, is_great, is_small
from balancehall.parts import Atom, Group, Piece, counts_weight, parts_counts

LONGEST_TEXT = 400
LONGEST_KIND = 3
LONGEST_COUNT = 3
MOST_GROUPS_AROUND = 3
ELECTRON = "e^-"


def refuse_too_long(text):
    if len(text) > LONGEST_TEXT:
        raise TooLong(len(text))


def charge_shown(charge):
    if charge == 0:
        return ""
    return CHARGE_MARK + count_shown(abs(charge)) + (PLUS if charge > 0 else MINUS)


class Formula:
    def __init__(self, pieces, charge=0):
        self.pieces = list(pieces)
        self.charge = charge

    def shown(self):
        if not self.pieces:
            return ELECTRON
        return PIECE_DOT.join([piece.shown() for piece in self.pieces]) + charge_shown(self.charge)

    def counts(self):
        return parts_counts(self.pieces, 1)

    def weight(self, weights):
        return counts_weight(self.counts(), weights) + self.charge * weights.get(PLUS, 0)


# Goes over a text and takes no sign that could not stand there in a formula. So where it can't go on, the signs ahead
# of its place begin a formula, and with the sign at its place they don't (or the text ends too early).
class Reader:
    def __init__(self, text):
        self.text = text
        self.place = 0

    # Empty behind the text's end.
    def sign(self):
        return self.text[self.place:self.place + 1]

    def take(self, sign):
        if self.sign() != sign:
            raise NoFormula(self.place)
        self.place += 1

    def take_all(self, signs):
        for sign in signs:
            self.take(sign)

    def take_end(self):
        if self.place < len(self.text):
            raise NoFormula(self.place)

    def read_whole(self):
        if self.sign() == ELECTRON[0]:
            return self.read_electron()
        pieces = [Piece(self.read_parts(0))]
        while self.sign() == PIECE_DOT:
            self.take(PIECE_DOT)
            count = self.read_count()
            pieces.append(Piece(self.read_parts(0), count))
        return Formula(pieces, self.read_charge())

    def read_electron(self):
        self.take_all(ELECTRON)
        return Formula([], -1)

    def read_parts(self, around):
        parts = [self.read_part(around)]
        while is_great(self.sign()) or self.sign() == GROUP_BEGIN:
            parts.append(self.read_part(around))
        return parts

    # `around` is in how many groups the part stands.
    def read_part(self, around):
        if self.sign() == GROUP_BEGIN and around <= MOST_GROUPS_AROUND:
            return self.read_group(around)
        return self.read_atom()

    def read_group(self, around):
        self.take(GROUP_BEGIN)
        parts = self.read_parts(around + 1)
        self.take(GROUP_END)
        return Group(parts, self.read_count())

    def read_atom(self):
        if not is_great(self.sign()):
            raise NoFormula(self.place)
        begin = self.place
        self.place += 1
        while is_small(self.sign()) and self.place - begin < LONGEST_KIND:
            self.place += 1
        kind = self.text[begin:self.place]
        return Atom(kind, self.read_count())

    def read_count(self):
        return self.read_number(LONGEST_COUNT)

    # 1 where none is written. A lone 1 is refused only behind it: other figures might have followed.
    def read_number(self, longest):
        if self.sign() == "0":
            raise NoFormula(self.place)
        begin = self.place
        while is_figure(self.sign()) and self.place - begin < longest:
            self.place += 1
        written = self.text[begin:self.place]
        if written == "1":
            raise NoFormula(self.place)
        return int(written) if written else 1

    def read_charge(self):
        if self.sign() != CHARGE_MARK:
            return 0
        self.take(CHARGE_MARK)
        count = self.read_count()
        if self.sign() == MINUS:
            self.take(MINUS)
            return -count
        self.take(PLUS)
        return count


def read_formula(text):
    refuse_too_long(text)
    reader = Reader(text)
    formula = reader.read_whole()
    reader.take_end()
    return formula
