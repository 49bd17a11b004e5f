import os
import re
import unittest

from language import PACKAGE, faults, package_faults

FOLDER = os.path.join(os.path.dirname(os.path.dirname(os.path.abspath(__file__))), PACKAGE)

GOOD = '''"""Words."""

from balancehall.errors import HallError

NAMES = ("a", "b")


def one_more(number):
    return number + 1


WAYS = {"a": one_more, "b": (one_more, 2)}


def answer(name):
    if name not in WAYS:
        return list(WAYS)
    return WAYS[name](len(WAYS) + WAYS.get("c", 3))


class Thing(HallError):
    def __init__(self, parts, count=1):
        HallError.__init__(self, f"{count} there")
        self.parts = list(parts)
        self.count = count

    def told(self):
        total = {}
        for part in self.parts:
            if part is None or not 1 <= part <= 9:
                continue
            total[part] = total.get(part, 0) + part ** 2
        if set(total) == set(self.parts) or len(set(total)) > 1 or 1 in set(total):
            return [part for place, part in enumerate(reversed(self.parts), start=1) if place > 1]
        return sorted([part for part in total if part > 1], key=lambda part: -part)

    def pairs(self):
        return list(zip(self.parts, sorted(self.parts, key=len, reverse=True)))
'''

BROKEN = (
    ("L2", "import sys"),
    ("L2", "from os import path"),
    ("L2", "from balancehall.parts import *"),
    ("L2", "from .parts import Atom"),
    ("L3", "if True:\n    pass"),
    ("L3", "A = list((1, 2))"),
    ("L3", "A = {'a': f}\n\n\ndef f():\n    return 1"),
    ("L3", "A = [x for x in (1, 2)]"),
    ("L4", "def f(*rest):\n    return 1"),
    ("L4", "def f(one, **rest):\n    return 1"),
    ("L5", "class A(B, C):\n    pass"),
    ("L5", "class A:\n    many = 1"),
    ("L6", "def f():\n    global x"),
    ("L6", "def f():\n    assert True"),
    ("L6", "def f():\n    a = b = 1"),
    ("L6", "def f(xs):\n    for x in xs:\n        pass\n    else:\n        pass"),
    ("L6", "def f():\n    '''Words.'''"),
    ("L6", "def f(x):\n    return x / 2"),
    ("L6", "def f(xs):\n    return {x for x in xs}"),
    ("L6", "def f(xs):\n    return any(x for x in xs)"),
    ("L7", "def f():\n    return 1.5"),
    ("L7", "def f(xs):\n    return [x for ys in xs for x in ys]"),
    ("L7", "def f(x):\n    return f'{x + 1}'"),
    ("L8", "def f(xs):\n    return map(len, xs)"),
    ("L10", "def f():\n" + "    pass\n" * 40),
    ("L10", "# " + "a" * 120),
    ("L12", "def hidden(_x):\n    return 1"),
    ("L12", "def _hidden():\n    return 1"),
    ("L14", "# \u00fc"),
    ("L14", "# \t"),
    ("L15", "A = 1\nA = 2"),
    ("L15", "def f(hash):\n    return hash"),
    ("L15", "from balancehall.wholes import lowest\n\n\ndef f(lowest):\n    return 1"),
    ("L15", "class A:\n    pass\n\n\ndef f(xs):\n    return [A for A in xs]"),
    ("L15", "A = [[1], 2]"),
    ("L15", "A = {'a': {}}"),
    ("L15", "A = [1]\n\n\ndef f():\n    A.append(2)"),
    ("L15", "A = {}\n\n\ndef f():\n    A['a'] = 1"),
    ("L15", "A = {}\n\n\ndef f():\n    return A"),
    ("L15", "A = [1]\n\n\ndef f():\n    return g(A)"),
    ("L17", "# a type of thing"),
    ("L17", "def f(x):\n    return open"),
    ("L18", "class A:\n    def f(self):\n        pass\n    def f(self):\n        pass"),
    ("L19", "def f():\n    try:\n        g()\n    except Exception:\n        pass"),
    ("L20", "def f(a, b):\n    return a is b"),
    ("L21", "def f(a: int):\n    return a"),
    ("L22", "def f(xs):\n    return list(iterable=xs)"),
    ("L22", "def f(x):\n    return str(object=x)"),
    ("L22", "def f(xs):\n    return xs.split(sep=' ')"),
    ("L22", "def f(xs):\n    g = len\n    return g(xs)"),
    ("L23", "def f(xs, ys):\n    pairs = zip(xs, ys)\n    return list(pairs)"),
    ("L23", "def f(d):\n    return d.items()"),
    ("L23", "def f(xs, ys):\n    return zip(xs, range(3))"),
    ("L24", "def f(xs):\n    a = set(xs)\n    return len(a)"),
    ("L24", "def f(xs):\n    for x in set(xs):\n        g(x)"),
    ("L24", "def f():\n    return {1, 2}"),
    ("L26", "def f(a):\n    a.items = 1"),
    ("L28", "class A:\n    def __init__(self):\n        return None"),
    ("L27", "def f(n):\n    return 2 ** n"),
    ("L27", "A = 'a % b'"),
)


def sources():
    told = {}
    for name in sorted(os.listdir(FOLDER)):
        if name.endswith(".py"):
            with open(os.path.join(FOLDER, name), encoding="utf-8") as file:
                told[f"{PACKAGE}.{name[:-3]}"] = file.read()
    return told


class LanguageTest(unittest.TestCase):
    def test_each_file_keeps_to_the_rules(self):
        for name, source in sources().items():
            with self.subTest(name):
                self.assertEqual(faults(source), [])

    def test_the_package_keeps_to_the_rules(self):
        self.assertEqual(package_faults(sources()), [])

    def test_plain_files_alone_lie_in_the_package(self):
        names = [name for name in os.listdir(FOLDER) if name != "__pycache__"]
        self.assertIn("__init__.py", names)
        for name in names:
            self.assertTrue(re.fullmatch(r"[a-z][a-z0-9_]*\.py|__init__\.py|__main__\.py", name), name)

    def test_good_code_has_no_fault(self):
        self.assertEqual(faults(GOOD), [])

    def test_each_fault_is_seen(self):
        for rule, source in BROKEN:
            with self.subTest(rule=rule, source=source):
                self.assertIn(rule, [told for told, row in faults(source)])

    def test_faults_of_the_whole_package_are_seen(self):
        method = "class A:\n    def told(self):\n        return 1"
        value = "class B:\n    def __init__(self):\n        self.told = 1"
        self.assertEqual(package_faults({"balancehall.a": method, "balancehall.b": value}), [("L18", "told")])
        call = "def f(xs):\n    xs.sort()"
        self.assertEqual(package_faults({"balancehall.a": call}), [("L25", "sort")])
        one = "from balancehall.b import g\n\n\ndef f():\n    return g()"
        other = "from balancehall.a import f\n\n\ndef g():\n    return f()"
        round_about = [("L16", "balancehall.a"), ("L16", "balancehall.b")]
        self.assertEqual(package_faults({"balancehall.a": one, "balancehall.b": other}), round_about)
        third = {"balancehall.a": "A = 1", "balancehall.b": "from balancehall.a import A"}
        self.assertEqual(package_faults(third), [])
        third["balancehall.c"] = "from balancehall.b import A"
        self.assertEqual(package_faults(third), [("L16", "balancehall.c")])


if __name__ == "__main__":
    unittest.main()
