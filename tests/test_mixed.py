"""All 24 calls mixed, in lists of 40 calls, against a slow bench; all together, of all turns given."""

import collections
import random
import unittest

from benchturns.bench import answers
from tests.plain import GREATEST, MOST_CALLS, NAMES, ask, told_apart, written
from tests.plain_bench import PlainBench
from tests.samples import around

# What stands behind each call's name: a group, a place, a number, how many things, a row.
SHAPES = {
    "new": "n", "give": "gx", "clear": "g", "gens": "g", "order": "g", "chain": "g", "orbits": "g", "blocks": "gpp",
    "kind": "g", "has": "gx", "nth": "gk", "place": "gx", "coset": "gx", "within": "gg", "word": "gx", "class": "gx",
    "normal": "ggg", "derived": "gg", "meet": "ggg", "join": "ggg", "mul": "xx", "power": "kx", "inverse": "x", "cycles": "x",
}
WRONG = 0.02


class Source:
    """Draws calls by a fixed seed, so that they are the same every time."""

    def __init__(self, seed, most_things):
        self.drawn = random.Random(seed)
        self.most_things = most_things
        self.things = 3

    def is_wrong(self):
        return self.drawn.random() < WRONG

    def group(self):
        return self.drawn.choice((4, 255, GREATEST)) if self.is_wrong() else self.drawn.randrange(4)

    def place(self):
        return self.drawn.choice((self.things, GREATEST)) if self.is_wrong() else self.drawn.randrange(self.things)

    def number(self):
        return self.drawn.choice((0, 0, 1, 1, 1, 2, 2, 3, 4, 5, 7, 11, 23, 24, 59, 119, 4294967291, GREATEST))

    def row(self):
        row = list(range(self.things))
        if self.is_wrong():
            wrong = ([], row[1:], row + [self.things], row[1:] + row[-1:], row[1:] + [self.things], list(range(16)), [255] * 16)
            return list(self.drawn.choice(wrong))
        if self.drawn.random() < 0.6:
            return around(self.things, self.drawn.sample(row, min(self.things, self.drawn.choice((2, 2, 3, 4)))))
        self.drawn.shuffle(row)
        return row

    def count(self):
        if self.is_wrong():
            return self.drawn.choice((0, 10, GREATEST))
        self.things = max(self.drawn.randint(1, self.most_things), self.drawn.randint(1, self.most_things))
        return self.things

    def call(self, name):
        parts = {"g": self.group, "p": self.place, "k": self.number, "n": self.count, "x": self.row}
        return (name,) + tuple(parts[shape]() for shape in SHAPES[name])

    def calls(self):
        """Each call at least once; mostly turns given at first, and new seldom, so that groups grow."""
        first = ["give"] * 6 + ["join"]
        later = list(NAMES[1:]) + ["gens", "order"]
        later += self.drawn.choices(("new", "join", "normal", "meet", "derived", "word", "give"), k=MOST_CALLS - 8 - len(later))
        self.drawn.shuffle(first)
        self.drawn.shuffle(later)
        return [self.call(name) for name in ["new"] + first + later]


class Mixed(unittest.TestCase):
    def lists(self):
        for seed in range(300):
            yield Source(seed, 4).calls()
        for seed in range(300, 500):
            yield Source(seed, 5).calls()

    def test_against_a_slow_bench(self):
        for calls in self.lists():
            bench = PlainBench()
            numbers = written(calls)
            as_it_was = list(numbers)
            found = told_apart(answers(numbers), MOST_CALLS)
            with self.subTest(calls=calls):
                self.assertEqual(numbers, as_it_was)
                for call, told in zip(calls, found):
                    self.assertEqual(told, bench.answer(call), call)
                self.assertEqual(told_apart(answers(numbers), MOST_CALLS), found)

    def test_the_lists_have_all_calls_and_all_refusals(self):
        asked, told = collections.Counter(), collections.Counter()
        for calls in self.lists():
            self.assertEqual(len(calls), MOST_CALLS)
            for call, answer in zip(calls, ask(calls)):
                asked[call[0]] += 1
                told[call[0], min(answer[0], 0)] += 1
        self.assertEqual(set(asked), set(NAMES))
        for name in NAMES:
            self.assertGreater(told[name, 0], 50, name)
            if "g" in SHAPES[name] or name == "new":
                self.assertGreater(told[name, -2], 0, name)
            if "x" in SHAPES[name]:
                self.assertGreater(told[name, -1], 0, name)
        for name, refusal in (("nth", -4), ("place", -4), ("word", -4)):
            self.assertGreater(told[name, refusal], 0, name)


class NewInBetween(unittest.TestCase):
    def test_groups_made_are_taken_away(self):
        for things in (1, 4, 3, 9):
            calls = [("give", 0, [1, 2, 0]), ("give", 1, [1, 0, 2]), ("join", 0, 1, 2), ("derived", 2, 3), ("new", things)]
            calls += [("gens", group) for group in range(4)] + [("order", group) for group in range(4)]
            self.assertEqual(ask(calls)[2:], [[6, 2], [3, 1], [0]] + [[0]] * 4 + [[1]] * 4)

    def test_turns_are_of_so_many_things(self):
        calls = [("mul", [1, 0, 2], [0, 2, 1]), ("new", 2), ("mul", [1, 0, 2], [0, 2, 1]), ("inverse", [1, 0]), ("cycles", [0, 1, 2]),
                 ("power", 3, [1, 0]), ("new", 10), ("coset", 0, [1, 0]), ("class", 0, [1, 0, 2]), ("word", 3, [0, 1]), ("new", 3),
                 ("word", 3, [0, 1])]
        self.assertEqual(ask(calls), [[2, 0, 1], [0], [-1], [1, 0], [-1], [1, 0], [-2], [1, 0], [-1], [0], [0], [-1]])


if __name__ == "__main__":
    unittest.main()
