"""The package keeps to LANGUAGE.md, and the search for faults finds one where there is one."""

import pathlib
import unittest

from tests.language import PACKAGE, faults

FOLDER = pathlib.Path(__file__).resolve().parent.parent / PACKAGE

BROKEN = (
    ("L2", "import benchturns.turns\n"),
    ("L2", "import random\n"),
    ("L2", "from random import choice\n"),
    ("L2", "from .turns import product\n"),
    ("L2", "def act():\n    from benchturns.turns import product\n    return product\n"),
    ("L3", "XS = [x for x in (1, 2)]\n"),
    ("L3", "if True:\n    X = 1\n"),
    ("L3", "len('x')\n"),
    ("L4", "def act(*rows):\n    return rows\n"),
    ("L4", "def act(a, *, b):\n    return b\n"),
    ("L4", "def act(x):\n    def inner():\n        return x\n    return inner()\n"),
    ("L4", "def act(x, y=[z for z in (1,)]):\n    return y\n"),
    ("L5", "class Kept:\n    count = 0\n"),
    ("L5", "class Kept:\n    def __hash__(self):\n        return 1\n"),
    ("L6", "def act(x):\n    del x\n"),
    ("L6", "def act(x):\n    assert x\n"),
    ("L6", "def act(x):\n    a = b = x\n    return a + b\n"),
    ("L6", "def act(xs):\n    for x in xs:\n        pass\n    else:\n        return 1\n"),
    ("L6", "def act(x):\n    yield x\n"),
    ("L6", "def act(xs):\n    with xs:\n        pass\n"),
    ("L6", "def act():\n    global X\n"),
    ("L7", "def act(x):\n    return x / 2\n"),
    ("L7", "X = 1.5\n"),
    ("L7", "def act(xs):\n    return sum(x for x in xs)\n"),
    ("L7", "def act(xs):\n    return {x: 1 for x in xs}\n"),
    ("L7", "def act(xs):\n    return [a + b for a in xs for b in xs]\n"),
    ("L7", "def act(x):\n    return f'{x + 1}'\n"),
    ("L7", "def act(xs):\n    return [*xs]\n"),
    ("L7", "def act(x):\n    return (y := x)\n"),
    ("L7", "def act(xs):\n    return sorted(xs, key=lambda x: 0)\n"),
    ("L7", "X = b'a'\n"),
    ("L8", "def act(xs):\n    return filter(None, xs)\n"),
    ("L8", "def act(xs):\n    return unknown\n"),
    ("L10", "def act(x):\n" + "    x = x + 1\n" * 40),
    ("L10", "# " + "x" * 120 + "\n"),
    ("L10", "# x\n" * 401),
    ("L12", "def act(xs):\n    return [0 for _ in xs]\n"),
    ("L12", "def _act(x):\n    return x\n"),
    ("L13", "def act(x):\n    y = {1, 2, 3}\n    return x in y\n"),
    ("L14", "# \u00e9\n"),
    ("L14", "def act():\n\treturn 1\n"),
    ("L15", "X = 1\nX = 2\n"),
    ("L15", "XS = [1, 2]\n\n\ndef act():\n    XS.append(1)\n"),
    ("L15", "XS = [1, 2]\n\n\ndef act():\n    XS[0] = 1\n"),
    ("L15", "XS = [1, 2]\n\n\ndef act():\n    return XS\n"),
    ("L15", "XS = [[1], 2]\n"),
    ("L15", "def act(map):\n    return map\n"),
    ("L15", "def act(x):\n    sum = x\n    return sum\n"),
    ("L15", "from benchturns.turns import product\n\n\ndef act(product):\n    return product\n"),
    ("L16", "from benchturns.turns import nothing\n"),
    ("L17", "def act(x):\n    return getattr(x, 'y')\n"),
    ("L17", "# this type\n"),
    ("L17", "def act(x):\n    print(x)\n"),
    ("L17", "def act(x):\n    return chr(x)\n"),
    ("L18", "class Kept:\n    def __init__(self):\n        self.act = 1\n\n    def act(self):\n        return 1\n"),
    ("L18", "class Kept:\n    def act(self):\n        return 1\n\n\ndef make():\n    return [Kept]\n"),
    ("L18", "from benchturns.turns import Row\n\n\ndef make():\n    return [Row]\n"),
    ("L19", "def act(x):\n    try:\n        return x\n    except Exception:\n        return 1\n"),
    ("L19", "def act(x):\n    try:\n        return x\n    except:\n        return 1\n"),
    ("L19", "def act(x):\n    raise ValueError(x)\n"),
    ("L20", "def act(x, y):\n    return x is y\n"),
    ("L21", "def act(x: int):\n    return x\n"),
    ("L21", "def act(x):\n    y: int = x\n    return y\n"),
    ("L22", "def act(xs):\n    how = len\n    return how(xs)\n"),
    ("L22", "def act(xs):\n    return sorted(xs, reverse=True)\n"),
    ("L22", "def act(xs):\n    return min([len, sum])(xs)\n"),
    ("L23", "def act(xs):\n    return zip(xs, xs)\n"),
    ("L23", "def act(n):\n    return [x for x in reversed(range(n))]\n"),
    ("L23", "def act(xs):\n    for x in xs:\n        xs.append(x)\n"),
    ("L23", "def act(xs):\n    for k, x in enumerate(xs):\n        xs[k] = x\n"),
    ("L24", "def act(xs):\n    for x in set(xs):\n        return x\n"),
    ("L24", "def act(xs):\n    ys = set(xs)\n    return ys\n"),
    ("L25", "def act(xs):\n    xs.sort()\n"),
    ("L26", "class Kept:\n    def __init__(self):\n        self.items = 1\n"),
    ("L27", "def act(n):\n    return 2 ** n\n"),
    ("L27", "X = 'a%b'\n"),
    ("L28", "class Kept:\n    def __init__(self):\n        return None\n"),
    ("L28", "class Kept:\n    def __len__(self):\n        self.x = 1\n        return 1\n"),
)

SOUND = '''"""What it is for."""

from benchturns.turns import product

LIMIT = -1


class Kept:
    def __init__(self, rows):
        self.rows = rows

    def add_row(self, row):
        self.rows.append(row)


def first(xs):
    return sorted([x for x in xs if x > LIMIT])[0]


TABLE = (("one", 1, first),)


def act(xs):
    kept = Kept([])
    for k, x in enumerate(xs):
        kept.add_row(product(x, xs[k]))
    return [len(set(row)) for row in kept.rows] if kept is not None else TABLE[0][2](xs)
'''
TURNS = "def product(x, y):\n    return [y[goal] for goal in x]\n\n\nclass Row:\n    def act(self):\n        return 1\n"


class KeepsToTheLanguage(unittest.TestCase):
    def package(self):
        found = {}
        for path in sorted(FOLDER.rglob("*")):
            if "__pycache__" not in path.parts and path.is_file():
                found[path.relative_to(FOLDER).as_posix()] = path.read_text(encoding="utf-8")
        return found

    def test_package(self):
        self.assertIn("bench.py", self.package())
        self.assertIn("__init__.py", self.package())
        self.assertEqual(faults(self.package()), [])

    def test_sound_code_has_no_faults(self):
        self.assertEqual(faults({"sound.py": SOUND, "turns.py": TURNS}), [])

    def test_faults_are_found(self):
        for rule, text in BROKEN:
            with self.subTest(rule=rule, text=text):
                found = faults({"broken.py": text, "turns.py": TURNS})
                self.assertIn((rule, "broken.py"), [(fault[0], fault[1]) for fault in found])

    def test_file_names(self):
        for rule, name in (("L1", "Turns.py"), ("L1", "notes"), ("L14", "test_turns.py"), ("L14", "filter.py")):
            self.assertEqual([fault[:2] for fault in faults({name: ""})], [(rule, name)])

    def test_circles(self):
        one = "from benchturns.two import b\n\n\ndef a():\n    return b()\n"
        two = "from benchturns.one import a\n\n\ndef b():\n    return a()\n"
        self.assertEqual({fault[0] for fault in faults({"one.py": one, "two.py": two})}, {"L16"})


if __name__ == "__main__":
    unittest.main()
