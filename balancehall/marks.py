"""The single signs of formulas' texts, and how a count is written among them."""

GROUP_BEGIN = "("
GROUP_END = ")"
PIECE_DOT = "."
CHARGE_MARK = "^"
PLUS = "+"
MINUS = "-"


# Compared with the ends of each row, so that no sign (the empty text behind a text's end) is none of them.
def is_great(sign):
    return "A" <= sign <= "Z"


def is_small(sign):
    return "a" <= sign <= "z"


def is_figure(sign):
    return "0" <= sign <= "9"


# A formula has just one text, so a count of 1 is never written.
def count_shown(count):
    if count == 1:
        return ""
    return str(count)
