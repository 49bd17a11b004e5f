"""The rows that a desk is told: their words, and the forms that they have."""

from balancehall.errors import NoRow
from balancehall.formulas import LONGEST_KIND
from balancehall.marks import PLUS, is_figure, is_great, is_small

PARTING = " "
LONGEST_NAME = 8
LONGEST_NUMBER = 60
GREATEST_SUM = 8


def is_name(word):
    return 1 <= len(word) <= LONGEST_NAME and all([is_small(sign) for sign in word])


def is_number(word):
    if not 1 <= len(word) <= LONGEST_NUMBER or (word[0] == "0" and word != "0"):
        return False
    return all([is_figure(sign) for sign in word])


# Up to it least balances are asked for.
def is_sum(word):
    return is_number(word) and int(word) <= GREATEST_SUM


def is_kind(word):
    if word == PLUS:
        return True
    return is_great(word[:1]) and len(word) <= LONGEST_KIND and all([is_small(sign) for sign in word[1:]])


# Of a formula or a change: whatever stands there, the row has its form, and the text is refused later.
def is_any(word):
    return True


FORMS = {
    "change": (is_name, is_any),
    "drop": (is_name,),
    "show": (is_name,),
    "balance": (is_name,),
    "least": (is_name, is_sum),
    "lost": (is_name,),
    "put": (is_any, is_number),
    "have": (is_any,),
    "go": (is_name, is_number),
    "most": (is_name,),
    "total": (is_kind,),
    "goal": (is_any, is_number),
}


def words_of(row):
    words = row.split(PARTING)
    if words[0] == "change":
        return row.split(PARTING, 2)
    if words[0] == "go" and len(words) == 2:
        return words + ["1"]
    return words


# A goal's form is told as often as its words need, and at least once.
def form_of(words):
    form = FORMS[words[0]]
    if words[0] == "goal":
        return form * max(1, (len(words) - 1) // len(form))
    return form


def has_form(words):
    if words[0] not in FORMS:
        return False
    form = form_of(words)
    return len(words) == 1 + len(form) and all([fits(word) for fits, word in zip(form, words[1:])])


def read_row(row):
    words = words_of(row)
    if not has_form(words):
        raise NoRow()
    return words
