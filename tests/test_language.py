"""That the package keeps to ../shared/LANGUAGE.md, and that each check of language.py finds what breaks its rule."""

import unittest
from pathlib import Path

from language import PACKAGE, RULES, Package, findings, read_package

FOLDER = Path(__file__).resolve().parent.parent / PACKAGE

KEPT = {
    "__init__.py": '"""A package."""\n',
    "store.py": '"""The interface."""\n\nfrom plotversions.sample import Thing\n\n\n'
                "def answers(calls):\n    thing = Thing(calls)\n    return thing.answered()\n",
}

# Uses much of what the rules allow.
ALLOWED = '''"""A file that keeps to every rule."""

LEAST = -2
NAMES = ("a", "b")
NUMBERS = {"a": (1, 2), "b": (3, 4)}


class Refusal(Exception):
    pass


class Thing:
    def __init__(self, calls):
        self.calls = list(calls)
        self.count = 0

    def answered(self):
        answered = []
        for at, call in enumerate(self.calls):
            if call in (1, 2) and at != LEAST:
                answered.append(call ** 2 // 3)
        self.count += len(answered)
        return answered


def helped(given, default=None):
    first, second = given
    known = sorted(set(first) | set(second))
    if default is None or not known:
        raise Refusal("nothing known")
    try:
        number = int(first)
    except ValueError:
        number = NUMBERS["a"][0]
    return [f"{name} {number!r}" for name in NAMES if name != "b"], max(known, key=lambda value: -value)
'''

HEAD = '"""A file."""\n'

BROKEN = {
    "L2": ["import os", "from os import path", "from .store import answers", "from plotversions.store import *",
           "from plotversions.__main__ import run", "def f():\n    from plotversions.store import answers"],
    "L3": ["x = 1 + 1", "print(1)", "x = [y for y in (1, 2)]", "if True:\n    x = 1", "x = len", "x, y = 1, 2",
           "for x in (1, 2):\n    pass"],
    "L4": ["def f(*a):\n    pass", "def f(**a):\n    pass", "def f(*, a):\n    pass", "def f(a=-1):\n    pass",
           "def f(a=[]):\n    pass", "@g\ndef f():\n    pass", "def f(a, /):\n    pass"],
    "L5": ["class A(B, C):\n    pass", "class A:\n    x = 1", "@f\nclass A:\n    pass", "class A(dict):\n    pass"],
    "L6": ["def f():\n    assert True", "def f():\n    with a as b:\n        pass", "def f():\n    del a",
           "def f():\n    global a", "def f():\n    for a in b:\n        pass\n    else:\n        pass",
           "def f():\n    a = b = 1", "def f():\n    try:\n        g()\n    finally:\n        g()",
           "def f():\n    try:\n        g()\n    except:\n        g()", "def f():\n    1", 'def f():\n    """Says."""'],
    "L7": ["def f():\n    return 1.5", "def f():\n    return 1 / 2", "def f():\n    return b''",
           "def f():\n    return {a: a for a in b}", "def f():\n    return {a for a in b}",
           "def f():\n    return any(a for a in b)", "def f():\n    return (a := 1)", "def f():\n    return g(*a)",
           "def f():\n    return [*a]", "def f():\n    return {**a}", "def f():\n    return g(**a)",
           "def f():\n    return [a for b in c for a in b]", "def f():\n    return [a for a in b if a if b]",
           "def f():\n    return f'{a + 1}'", "def f():\n    return f'{a:3}'", "def f():\n    yield 1"],
    "L8": ["def f():\n    return hash(1)", "def f(a):\n    return a.__class__", "def f():\n    return unknown",
           "def f(a):\n    return a.format(1)", "class A:\n    def __add__(self, other):\n        return 1"],
    "L9": ["def f():\n    print(1)", "def f():\n    return sys.stdin"],
    "L10": ["def f():\n" + "    g()\n" * 40, "x = 1\n" * 399, "# " + "x" * 119, "def f():\n\tpass"],
    "L11": ["def f(a):\n    for b in set(a):\n        g(b)", "def f(a):\n    return [b for b in set(a)]"],
    "L12": ["def f(_a):\n    pass", "def f():\n    for _ in range(2):\n        pass", "def f(a):\n    return a._b"],
    "L13": ["def f():\n    a = {1, 2, 3}", "def f():\n    return g(lambda a: 1, lambda a: 2)"],
    "L15": ["x = 1\nx = 2", "x = [[1], 2]", "x = {1: [2]}", "X = [1]\ndef f():\n    X.append(2)",
            "X = [1]\ndef f():\n    X[0] = 2", "X = [1]\ndef f():\n    return X", "X = [1]\ndef f():\n    g(X)",
            "def f(id):\n    pass", "def f():\n    hash = 1", "class A:\n    pass\ndef f(A):\n    pass",
            "from plotversions.store import answers\ndef f():\n    answers = 1", "def f():\n    class A:\n        pass",
            "def map():\n    pass",
            "from plotversions.sample import NAMES\ndef f():\n    return NAMES",
            "from plotversions.sample import NUMBERS\ndef f(a):\n    a.append(NUMBERS)"],
    "L16": ["from plotversions.store import absent", "from plotversions.absent import name",
            "from plotversions.store import Thing",
            "def answers(calls):\n    pass"],
    "L17": ["# says which type", "x = 'Enum'", "# a dataclasses word", "def f(elements):\n    pass",
            "def f(a):\n    a.open()",
            "def f(dir):\n    pass", "def f():\n    return __name__"],
    "L18": ["class A:\n    pass\ndef f():\n    return A", "class A:\n    pass\ndef f():\n    A.x = 1",
            "class A:\n    def f(self):\n        pass\n    def f(self):\n        pass",
            "class A:\n    def f(self):\n        self.f = 1", "class A(AttributeError):\n    pass"],
    "L19": ["def f(a):\n    raise Refusal('') from a",
            "def f():\n    try:\n        g()\n    except Exception:\n        pass",
            "def f():\n    try:\n        g()\n    except ValueError:\n        pass",
            "def f():\n    try:\n        g()\n    except (KeyError, LookupError):\n        pass",
            "def f(a):\n    try:\n        a[0] + g()\n    except IndexError:\n        pass", "def f():\n    raise A",
            "def f():\n    try:\n        g()\n    except ():\n        pass"],
    "L20": ["def f(a):\n    return a is 1", "def f(a, b):\n    return a is not b"],
    "L21": ["def f(a: int):\n    pass", "def f() -> int:\n    pass", "x: int = 1"],
    "L22": ["def f():\n    return len", "def f(a):\n    return isinstance(a, set)",
            "def f(a):\n    return int(a, base=2)",
            "def f(a):\n    a.split(sep='x')", "def f(a):\n    a.b = sorted",
            "def f(a):\n    return sorted(a, key=sorted)", "def f(a, b):\n    return sorted(a, reverse=b)"],
    "L23": ["def f(a):\n    return max(range(3), range(4))", "def f(a, b):\n    return b.join(a.keys())",
            "def f(a):\n    return sum(a, range(3))", "def f(a):\n    b = zip(a, a)",
            "def f():\n    return range(3)", "def f(a):\n    return a.items()",
            "def f(a):\n    for b in a:\n        a.append(b)",
            "def f(a):\n    for b, c in a.items():\n        a[b] = 1",
            "def f(a):\n    for b, c in enumerate(a):\n        a.pop()",
            "def f(a, d):\n    for b, c in zip(a, d):\n        d.append(b)",
            "def f(a):\n    return list(zip(a, range(3)))"],
    "L24": ["def f(a):\n    b = set(a)", "def f(a):\n    return set(a)", "def f(a):\n    return list(set(a))",
            "def f(a):\n    return sorted(set(a), reverse=True)"],
    "L25": ["def f(a):\n    a.sort()", "def f(a):\n    return a.title()", "def f(a):\n    b = a.append"],
    "L26": ["class A:\n    def sort(self):\n        pass", "class A:\n    def __init__(self):\n        self.items = 1",
            "class A:\n    def __init__(self):\n        self.real = 1"],
    "L27": ["def f(a):\n    return 2 ** a", "def f(a):\n    return 2 ** 65", "x = 'a % b'",
            "def f():\n    return chr(65)",
            "x = '\\x41'", "x = '\\r'", "x = " + "1" * 901],
    "L28": ["class A:\n    def __len__(self):\n        return 1",
            "class A:\n    def __init__(self):\n        return None"],
}

BROKEN_FILES = {
    "L1": [{"notes.txt": "x"}, {"a-b.py": HEAD}, {"a.b.py": HEAD}],
    "L14": [{"Big.py": HEAD}, {"test_a.py": HEAD}, {"tests/__init__.py": HEAD}, {"len.py": HEAD}, {"enum.py": HEAD},
            {"inner/a.py": HEAD}, {"a.py": HEAD + "# \u00e9\n"}, {"a.py": HEAD + "x = 1\r\n"},
            {"a.py": HEAD + "#\x0c\n"},
            {"inner/__init__.py": HEAD, "inner/__main__.py": HEAD}],
    "L16": [{"__init__.py": HEAD + "store = 1\n"}, {"store.py": HEAD},
            {"store.py": HEAD + "def answers(calls=1):\n    pass\n"},
            {"a.py": HEAD + "from plotversions.b import TWO\n\nONE = 1\n",
             "b.py": HEAD + "from plotversions.a import ONE\n\nTWO = 2\n"}],
}


class PackageKeepsToTheRules(unittest.TestCase):
    def test_every_rule(self):
        package = read_package(FOLDER)
        self.assertIn("store.py", package.files)
        for rule in RULES:
            self.assertEqual(findings(rule, package), [])

    def test_no_rule_is_left_out(self):
        self.assertEqual(list(RULES), [f"L{number}" for number in range(1, 29)])
        self.assertEqual(set(BROKEN) | set(BROKEN_FILES), set(RULES))


class ChecksFindWhatBreaksARule(unittest.TestCase):
    def test_what_is_allowed_is_not_found(self):
        package = Package({**KEPT, "sample.py": ALLOWED})
        for rule in RULES:
            self.assertEqual(findings(rule, package), [])

    def test_code_that_breaks_a_rule(self):
        for rule, samples in BROKEN.items():
            for sample in samples:
                with self.subTest(rule=rule, sample=sample[:200]):
                    package = Package({**KEPT, "sample.py": ALLOWED, "broken.py": HEAD + sample + "\n"})
                    self.assertNotEqual(findings(rule, package), [])

    def test_files_that_break_a_rule(self):
        for rule, samples in BROKEN_FILES.items():
            for sample in samples:
                with self.subTest(rule=rule, sample=sample):
                    self.assertNotEqual(findings(rule, Package({**KEPT, "sample.py": ALLOWED, **sample})), [])


if __name__ == "__main__":
    unittest.main()
