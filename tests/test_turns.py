"""mul, power, inverse and cycles."""

import itertools
import unittest

from tests.plain import GREATEST, ask_behind, every_turn, plain_cycles, plain_power, then, undone
from tests.samples import around


def ask_turns(things, questions):
    return ask_behind([("new", things)], questions)


def some_turns(things):
    every = every_turn(things)
    return every[::max(1, len(every) // 97)] + every[-1:]


class Mul(unittest.TestCase):
    def test_all_turns_of_few_things(self):
        for things in range(1, 5):
            pairs = list(itertools.product(every_turn(things), repeat=2))
            found = ask_turns(things, [("mul", list(x), list(y)) for x, y in pairs])
            self.assertEqual(found, [list(then(x, y)) for x, y in pairs])

    def test_turns_of_more_things(self):
        for things in range(5, 10):
            pairs = list(zip(some_turns(things), some_turns(things)[::-1]))
            found = ask_turns(things, [("mul", list(x), list(y)) for x, y in pairs])
            self.assertEqual(found, [list(then(x, y)) for x, y in pairs])

    def test_first_x_then_y(self):
        found = ask_turns(3, [("mul", [1, 0, 2], [0, 2, 1]), ("mul", [0, 2, 1], [1, 0, 2])])
        self.assertEqual(found, [[2, 0, 1], [1, 2, 0]])

    def test_one_thing_and_nine(self):
        self.assertEqual(ask_turns(1, [("mul", [0], [0])]), [[0]])
        nine = around(9, list(range(9)))
        self.assertEqual(ask_turns(9, [("mul", nine, around(9, [0, 1]))]), [[0, 2, 3, 4, 5, 6, 7, 8, 1]])

    def test_no_group_is_asked_or_changed(self):
        calls = [("give", 0, [1, 2, 0]), ("mul", [1, 0, 2], [0, 2, 1]), ("power", 2, [1, 2, 0]), ("inverse", [2, 0, 1]),
                 ("cycles", [1, 0, 2]), ("gens", 0), ("order", 0), ("gens", 1)]
        self.assertEqual(ask_behind([], calls), [
            [1], [2, 0, 1], [2, 0, 1], [1, 2, 0], [2, 1, 2, 2, 0, 1, 1, 2], [1, 1, 2, 0], [3], [0],
        ])


class Power(unittest.TestCase):
    def test_up_to_many(self):
        for things in range(1, 10):
            turns = some_turns(things)[::9]
            asked = list(itertools.product(range(23), turns))
            found = ask_turns(things, [("power", times, list(x)) for times, x in asked])
            self.assertEqual(found, [plain_power(times, x) for times, x in asked])

    def test_greatest_and_large_numbers(self):
        for things in range(1, 10):
            for times in (64, 65, 1000, 2519, 2520, 2521, 65536, 2147483647, 2147483648, 4294967294, GREATEST):
                turns = some_turns(things)[::19]
                found = ask_turns(things, [("power", times, list(x)) for x in turns])
                # Every turn of nine things, done 2520 times, is still.
                self.assertEqual(found, [plain_power(times % 2520, x) for x in turns])

    def test_none_and_once(self):
        for things in range(1, 10):
            x = list(range(1, things)) + [0]
            still = list(range(things))
            found = ask_turns(things, [("power", 0, x), ("power", 1, x), ("power", 0, still), ("power", GREATEST, still)])
            self.assertEqual(found, [still, x, still, still])

    def test_by_hand(self):
        nine = around(9, list(range(9)))
        found = ask_turns(9, [("power", 2, nine), ("power", 9, nine), ("power", 8, nine), ("power", GREATEST, nine)])
        self.assertEqual(found, [[2, 3, 4, 5, 6, 7, 8, 0, 1], list(range(9)), [8, 0, 1, 2, 3, 4, 5, 6, 7],
                                 [3, 4, 5, 6, 7, 8, 0, 1, 2]])


class Inverse(unittest.TestCase):
    def test_all_turns_of_few_things_and_some_of_more(self):
        for things in range(1, 10):
            turns = every_turn(things) if things < 6 else some_turns(things)
            found = ask_turns(things, [("inverse", list(x)) for x in turns])
            self.assertEqual(found, [list(undone(x)) for x in turns])
            for x, y in zip(turns, found):
                self.assertEqual(then(x, y), tuple(range(things)))

    def test_by_hand(self):
        self.assertEqual(ask_turns(1, [("inverse", [0])]), [[0]])
        self.assertEqual(ask_turns(4, [("inverse", [1, 2, 3, 0])]), [[3, 0, 1, 2]])
        self.assertEqual(ask_turns(9, [("inverse", [2, 0, 1, 3, 4, 5, 6, 8, 7])]), [[1, 2, 0, 3, 4, 5, 6, 8, 7]])


class Cycles(unittest.TestCase):
    def test_all_turns_of_few_things_and_some_of_more(self):
        for things in range(1, 10):
            turns = every_turn(things) if things < 7 else some_turns(things)
            found = ask_turns(things, [("cycles", list(x)) for x in turns])
            self.assertEqual(found, [plain_cycles(x) for x in turns])

    def test_still(self):
        for things in range(1, 10):
            alone = [number for place in range(things) for number in (1, place)]
            self.assertEqual(ask_turns(things, [("cycles", list(range(things)))]), [[1, 0, things] + alone])

    def test_one_cycle(self):
        for things in range(2, 10):
            x = [things - 1] + list(range(things - 1))
            cycle = [0] + list(range(things - 1, 0, -1))
            self.assertEqual(ask_turns(things, [("cycles", x)]), [[things, (things - 1) % 2, 1, things] + cycle])

    def test_several(self):
        x = around(9, [8, 0, 5, 2], [7, 1, 3, 6, 4])
        y = around(9, [8, 0], [7, 1, 3], [4, 2])
        self.assertEqual(ask_turns(9, [("cycles", x), ("cycles", y)]), [
            [20, 1, 2, 4, 0, 5, 2, 8, 5, 1, 3, 6, 4, 7],
            [6, 0, 5, 2, 0, 8, 3, 1, 3, 7, 2, 2, 4, 1, 5, 1, 6],
        ])

    def test_odd_and_even(self):
        found = ask_turns(5, [("cycles", x) for x in ([1, 0, 2, 3, 4], [1, 0, 3, 2, 4], [1, 2, 0, 3, 4], [1, 2, 3, 0, 4])])
        self.assertEqual([told[:3] for told in found], [[2, 1, 4], [2, 0, 3], [3, 0, 3], [4, 1, 2]])

    def test_odd_as_kind_tells(self):
        for x in every_turn(5):
            found = ask_behind([("new", 5), ("give", 0, list(x))], [("cycles", list(x)), ("kind", 0), ("order", 0)])
            self.assertEqual(found[0][:2], [found[2][0], found[1][3]])


if __name__ == "__main__":
    unittest.main()
