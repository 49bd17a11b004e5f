"""The desk: changes kept by names and one store, told rows and answering each with a text."""

from balancehall.balances import balanced
from balancehall.changes import read_change
from balancehall.errors import NoBalance, NoName, TooMany
from balancehall.formulas import read_formula
from balancehall.goals import outlook
from balancehall.least import least
from balancehall.rows import read_row
from balancehall.stocks import Store

DONE = "ok"
MOST_CHANGES = 7


def joined(words):
    return " ".join([str(word) for word in words])


def lists_shown(lists):
    if not lists:
        return "none"
    return "; ".join([joined(words) for words in lists])


def weights_shown(head, names, weights):
    words = [head]
    for name in names:
        words.extend([name, weights[name]])
    return joined(words)


# Each of the answers is handed the desk and the words behind the row's first one.
def answer_change(desk, words):
    desk.changes[words[0]] = read_change(words[1])
    return DONE


def answer_drop(desk, words):
    desk.named(words[0])
    desk.changes.pop(words[0])
    return DONE


def answer_show(desk, words):
    return desk.named(words[0]).shown()


def answer_balance(desk, words):
    change = desk.named(words[0])
    try:
        return balanced(change).shown()
    except NoBalance as e:
        return weights_shown("no", change.kinds(), e.weights)


def answer_least(desk, words):
    return lists_shown(least(desk.named(words[0]).columns(), int(words[1])))


def answer_lost(desk, words):
    return lists_shown(desk.named(words[0]).lost())


def answer_put(desk, words):
    desk.store.put(words[0], int(words[1]))
    return DONE


def answer_have(desk, words):
    return str(desk.store.have(words[0]))


def answer_go(desk, words):
    desk.store.go(desk.named(words[0]).shown(), int(words[1]))
    return DONE


def answer_most(desk, words):
    times = desk.store.most(desk.named(words[0]).shown())
    return "ever" if times is None else str(times)


def answer_total(desk, words):
    return str(desk.store.total(words[0]))


def goal_told(words):
    goal = {}
    for text, number in zip(words[0::2], words[1::2]):
        read_formula(text)
        goal[text] = goal.get(text, 0) + int(number)
    return goal


def answer_goal(desk, words):
    goal = goal_told(words)
    if len(desk.changes) > MOST_CHANGES:
        raise TooMany(len(desk.changes))
    changes = [desk.changes[name] for name in sorted(desk.changes)]
    found = outlook(desk.store.stocks(), goal, changes)
    if found.times > 0:
        return joined(["way", found.times] + found.numbers)
    return weights_shown("never", sorted(found.weights), found.weights)


ANSWERS = {
    "change": answer_change,
    "drop": answer_drop,
    "show": answer_show,
    "balance": answer_balance,
    "least": answer_least,
    "lost": answer_lost,
    "put": answer_put,
    "have": answer_have,
    "go": answer_go,
    "most": answer_most,
    "total": answer_total,
    "goal": answer_goal,
}


class Desk:
    def __init__(self):
        self.changes = {}
        self.store = Store()

    def named(self, name):
        if name not in self.changes:
            raise NoName(name)
        return self.changes[name]

    def say(self, row):
        words = read_row(row)
        return ANSWERS[words[0]](self, words[1:])
