import pathlib
import tempfile
import unittest

from tests.language import faults, folder_faults

TOP = pathlib.Path(__file__).resolve().parent.parent
PACKAGE = TOP / "smelledwhen"

GOOD = '''"""Says what it is."""

LEAST = -1
SOME = (1, "two", None)


class Refused(ValueError):
    pass


class Pile:
    def __init__(self, most):
        self.most = most
        self.things = []

    def put(self, thing):
        if len(self.things) == self.most:
            raise Refused("no room")
        self.things.append(thing)
        return [len(self.things) - 1]


def total(numbers, start_at=0):
    held = start_at
    for place, number in enumerate(numbers):
        held += number * place if number > LEAST else 0
    return max([held] + [number for number in SOME[:1] if number], default=0)
'''

# For each rule what breaks it, put behind the good file.
BAD = {
    "L2": ["import math\n", "from os import path\n", "from smelledwhen.shelf import *\n", "from . import shelf\n"],
    "L3": ["for number in SOME:\n    pass\n", "total([1])\n", "LATER = total([1])\n", "if LEAST:\n    pass\n"],
    "L4": ["def f(*rest):\n    return rest\n", "def f(**rest):\n    return rest\n", "def f(*, a):\n    return a\n",
           "@total\ndef f():\n    return 1\n", "def f(a=[]):\n    return a\n",
           "def f():\n    def g():\n        return 1\n    return g\n"],
    "L5": ["class Two(Pile, Refused):\n    pass\n", "class Held:\n    size = 1\n", "@total\nclass Held:\n    pass\n",
           "class Held:\n    def __hash__(self):\n        return 1\n"],
    "L6": ["def f(a):\n    with a:\n        pass\n", "def f(a):\n    del a\n", "def f(a):\n    assert a\n",
           "def f(a):\n    b = c = a\n    return b + c\n", "def f(a):\n    b, c = a\n    return b + c\n",
           "def f(a):\n    for b in a:\n        pass\n    else:\n        pass\n", "def f(a):\n    a == 1\n",
           "def f():\n    global LEAST\n    LEAST = 1\n", "def f(a):\n    match a:\n        case 1:\n            pass\n"],
    "L7": ["def f(a):\n    return a / 2\n", "def f():\n    return 1.5\n", "def f():\n    return b'a'\n",
           "def f(a):\n    return {b: 1 for b in a}\n", "def f(a):\n    return sum(b for b in a)\n",
           "def f(a):\n    return [b for c in a for b in c]\n", "def f(a):\n    return [*a]\n",
           "def f(a):\n    return (b := a)\n", "def f(a):\n    return {**a}\n"],
    "L8": ["def f(a):\n    return hash(a)\n", "def f(a):\n    return map(f, a)\n", "def f(a):\n    return round(a)\n",
           "def f(a):\n    len = a\n    return len\n", "def f(a):\n    __b = a\n    return __b\n"],
    "L9": ["def f(a):\n    print(a)\n", "def f(a):\n    return open(a)\n", "def f():\n    return input()\n"],
    "L10": ["def f(a):\n" + "    a += 1\n" * 40, "# " + "a" * 119 + "\n", "# a\n" * 400, "#\ta\n"],
    "L11": ["def f(a):\n    return f(a - 1)\n", "def f(a):\n    return g(a)\ndef g(a):\n    return f(a)\n",
            "def f(a):\n    return sum(set(a))\n"],
    "L12": ["def f(_a):\n    return _a\n", "def f(a):\n    return a._most\n", "_hidden = 1\n",
            "def f(a):\n    return [1 for _ in a]\n", "def f():\n    \u00fc = 1\n    return \u00fc\n"],
    "L13": ["def f():\n    a = {1, 2, 3}\n    return len(a)\n", "def f():\n    return [lambda a: 1, lambda a: 2]\n"],
    "L14": ["# \u00fc\n", "# a\r\n", "#\x0c\n"],
    "L15": ["LEAST = 2\n", "def total():\n    return 1\n", "HELD = [1]\n", "HELD = {1: [2]}\n",
            "def f():\n    class Held:\n        pass\n    return 1\n", "def f(Pile):\n    return 1\n",
            "def f(min):\n    return min\n", "def f():\n    SOME[0] = 1\n"],
    "L16": ["import smelledwhen.shelf\n", "from smelledwhen import shelf\n"],
    "L17": ["# the type of it\n", "def f():\n    return 'a Flag'\n", "def f(a):\n    return a.tb_next\n",
            "def f(a):\n    return vars(a)\n", "def f(a):\n    a.register()\n", "# dataclasses\n"],
    "L18": ["KINDS = (Pile, Refused)\n", "def f():\n    return total(Pile)\n", "def f():\n    Pile.most = 1\n",
            "class Held:\n    def a(self):\n        return 1\n    def a(self):\n        return 2\n",
            "class Held:\n    def most(self):\n        return 1\n", "class Held(StopIteration):\n    pass\n"],
    "L19": ["def f():\n    try:\n        total([1])\n    except Exception:\n        pass\n", "def f(a):\n    raise a\n",
            "def f():\n    raise ValueError('no')\n", "def f(a):\n    raise Refused('no') from a\n"],
    "L20": ["def f(a, b):\n    return a is b\n", "def f(a):\n    return a is not 5\n"],
    "L21": ["def f(a: int):\n    return a\n", "def f(a) -> int:\n    return a\n", "def f():\n    a: int = 1\n    return a\n"],
    "L22": ["def f(a):\n    return [len, a]\n", "def f(a):\n    return sorted(a, cmp=1)\n",
            "def f(a, b):\n    return sorted(a, reverse=b)\n", "def f(a):\n    return int(a, base=2)\n"],
    "L23": ["def f(a):\n    b = range(a)\n    return list(b)\n", "def f(a):\n    return zip(a, a)\n",
            "def f(a):\n    return a.items()\n", "def f(a):\n    for b in a:\n        a.append(b)\n",
            "def f(a):\n    for b, c in enumerate(a):\n        a[b] = c\n", "def f(a):\n    return max(range(a), [1])\n"],
    "L24": ["def f(a):\n    b = set(a)\n    return len(b)\n", "def f(a):\n    return {b for b in a}\n"],
    "L25": ["def f(a):\n    a.sort()\n", "def f(a):\n    return a.title()\n", "def f(a):\n    return a.append\n"],
    "L26": ["class Held:\n    def sort(self):\n        return 1\n",
            "class Held:\n    def __init__(self):\n        self.items = 1\n",
            "class Held:\n    def __init__(self):\n        self.real = 1\n"],
    "L27": ["def f(a):\n    return 2 ** a\n", "def f():\n    return 'a % b'\n", "def f(a):\n    return chr(a)\n",
            "def f():\n    return '\\x41'\n", "def f(a):\n    return f'{a}'\n", "LONG = " + "9" * 901 + "\n"],
    "L28": ["class Held:\n    def __init__(self):\n        return None\n",
            "class Held:\n    def __len__(self):\n        return 1 + 1\n"],
}


class ThePackage(unittest.TestCase):
    def test_its_files_keep_to_every_rule(self):
        files = {path.name: path.read_bytes().decode("utf-8") for path in sorted(PACKAGE.glob("*.py"))}
        self.assertIn("shelf.py", files)
        self.assertEqual(faults(files), [])

    def test_nothing_else_lies_in_it(self):
        self.assertEqual(folder_faults(PACKAGE), [])

    def test_it_is_the_one_package_beside_the_tests(self):
        packages = sorted(path.parent.name for path in TOP.glob("*/__init__.py"))
        self.assertEqual(packages, ["smelledwhen", "tests"])


class TheCheck(unittest.TestCase):
    def test_what_keeps_to_the_rules_passes(self):
        self.assertEqual(faults({"good.py": GOOD}), [])

    def test_every_rule_is_checked(self):
        self.assertEqual(sorted(BAD, key=lambda rule: int(rule[1:])), [f"L{number}" for number in range(2, 29)])

    def test_what_breaks_a_rule_is_found(self):
        for rule, texts in BAD.items():
            for text in texts:
                with self.subTest(rule=rule, text=text):
                    found = faults({"good.py": GOOD + "\n\n" + text})
                    self.assertIn(rule, [broken for rules, *rest in found for broken in rules])

    def test_names_of_files(self):
        for name in ("len.py", "Shelf.py", "site.py", "test_shelf.py", "enum.py", "format.py", "my-file.py", "__main__.py"):
            with self.subTest(name=name):
                self.assertNotEqual(faults({name: GOOD}), [])

    def test_what_lies_in_a_folder(self):
        with tempfile.TemporaryDirectory() as place:
            folder = pathlib.Path(place)
            self.assertEqual([rules for rules, *rest in folder_faults(folder)], [("L14",)])
            (folder / "__init__.py").write_text("")
            (folder / "shelf.py").write_text(GOOD)
            self.assertEqual(folder_faults(folder), [])
            (folder / "notes.txt").write_text("")
            (folder / "odd.py").write_bytes(b"# \xff\n")
            self.assertEqual([name for rules, name, *rest in folder_faults(folder)], ["notes.txt", "odd.py"])
