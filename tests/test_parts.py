"""P4: parts told are the finest. orbits, blocks and kind against a plain search through all partings."""

import itertools
import unittest

from tests.plain import ask, ask_of, every_turn, listing, partings, plain_blocks, plain_kind, plain_orbits
from tests.samples import KNOWN, around, drawn


class AgainstPlainSearch(unittest.TestCase):
    def check(self, things, given):
        turns = listing(things, given)
        pairs = list(itertools.product(range(things), repeat=2))
        found = ask_of(things, given, [("orbits", 0), ("kind", 0)] + [("blocks", 0, a, b) for a, b in pairs])
        self.assertEqual(found[0], plain_orbits(things, turns))
        self.assertEqual(found[1], plain_kind(things, turns))
        for pair, parting in zip(pairs, found[2:]):
            self.assertEqual(parting, plain_blocks(things, turns, pair[0], pair[1]), pair)

    def test_all_ways_to_part_are_searched(self):
        self.assertEqual([len(partings(things)) for things in range(1, 7)], [1, 2, 5, 15, 52, 203])

    def test_any_one_turn_of_up_to_five_things(self):
        for things in range(1, 6):
            for turn in every_turn(things):
                with self.subTest(turn=turn):
                    self.check(things, [turn])

    def test_any_two_turns_of_up_to_three_things(self):
        for things in range(1, 4):
            for given in itertools.product(every_turn(things), repeat=2):
                with self.subTest(given=given):
                    self.check(things, given)

    def test_known_groups_of_few_things(self):
        for name, things, given, order in KNOWN:
            if order <= 60 and things <= 6:
                with self.subTest(name):
                    self.check(things, given)

    def test_drawn_groups_of_few_things(self):
        for name, things, given in drawn(3, 40, 5):
            with self.subTest(name, given=given):
                self.check(things, given)


class Orbits(unittest.TestCase):
    def test_none_given(self):
        for things in range(1, 10):
            self.assertEqual(ask_of(things, [], [("orbits", 0)]), [list(range(things))])

    def test_several_parts(self):
        given = [around(9, [8, 2]), around(9, [2, 5]), around(9, [7, 1, 3])]
        self.assertEqual(ask_of(9, given, [("orbits", 0)]), [[0, 1, 2, 1, 4, 2, 6, 1, 2]])

    def test_joined_late(self):
        given = [around(6, [4, 5]), around(6, [3, 4]), around(6, [0, 1]), around(6, [1, 5])]
        self.assertEqual(ask_of(6, given, [("orbits", 0)]), [[0, 0, 2, 0, 0, 0]])


class Blocks(unittest.TestCase):
    def test_the_same_place_twice_parts_each_alone(self):
        for name, things, given, order in KNOWN:
            questions = [("blocks", 0, place, place) for place in range(things)]
            self.assertEqual(ask_of(things, given, questions), [list(range(things))] * things, name)

    def test_either_order_alike(self):
        for name, things, given, order in KNOWN:
            one = ask_of(things, given, [("blocks", 0, a, b) for a in range(things) for b in range(things)])
            other = ask_of(things, given, [("blocks", 0, b, a) for a in range(things) for b in range(things)])
            self.assertEqual(one, other, name)

    def test_none_given_joins_the_two_alone(self):
        self.assertEqual(ask_of(4, [], [("blocks", 0, 3, 1)]), [[0, 1, 2, 1]])

    def test_square(self):
        given = [[1, 2, 3, 0], [0, 3, 2, 1]]
        questions = [("blocks", 0, 0, 2), ("blocks", 0, 3, 1), ("blocks", 0, 0, 1)]
        self.assertEqual(ask_of(4, given, questions), [[0, 1, 0, 1], [0, 1, 0, 1], [0, 0, 0, 0]])

    def test_nine_around(self):
        given = [[1, 2, 3, 4, 5, 6, 7, 8, 0]]
        questions = [("blocks", 0, 8, 2), ("blocks", 0, 0, 6), ("blocks", 0, 0, 2)]
        self.assertEqual(ask_of(9, given, questions), [[0, 1, 2] * 3, [0, 1, 2] * 3, [0] * 9])

    def test_places_that_stay_are_alone(self):
        apart = [around(9, [0, 1, 2, 3]), around(9, [5, 6])]
        questions = [("blocks", 0, 0, 2), ("blocks", 0, 0, 5), ("blocks", 0, 4, 7), ("blocks", 0, 4, 5)]
        self.assertEqual(ask_of(9, apart, questions), [
            [0, 1, 0, 1, 4, 5, 6, 7, 8], [0, 0, 0, 0, 4, 0, 0, 7, 8],
            [0, 1, 2, 3, 4, 5, 6, 4, 8], [0, 1, 2, 3, 4, 4, 4, 7, 8],
        ])
        at_once = [around(9, [0, 1, 2, 3], [5, 6])]
        self.assertEqual(ask_of(9, at_once, [("blocks", 0, 0, 5)]), [[0, 1, 0, 1, 4, 0, 1, 7, 8]])


class Kind(unittest.TestCase):
    def test_one_thing(self):
        self.assertEqual(ask_of(1, [], [("kind", 0)]), [[1, 1, 1, 0]])
        self.assertEqual(ask_of(1, [[0], [0]], [("kind", 0)]), [[1, 1, 1, 0]])

    def test_two_things(self):
        self.assertEqual(ask_of(2, [], [("kind", 0)]), [[0, 0, 1, 0]])
        self.assertEqual(ask_of(2, [[0, 1]], [("kind", 0)]), [[0, 0, 1, 0]])
        self.assertEqual(ask_of(2, [[1, 0]], [("kind", 0)]), [[1, 1, 1, 1]])

    def test_none_given(self):
        for things in range(2, 10):
            self.assertEqual(ask_of(things, [], [("kind", 0)]), [[0, 0, 1, 0]])

    def test_known_kinds(self):
        kinds = {
            "three things around": [1, 1, 1, 0],
            "the four group": [1, 0, 1, 0],
            "two swaps apart": [0, 0, 1, 1],
            "a square": [1, 0, 0, 1],
            "the even turns of four": [1, 1, 0, 0],
            "twenty turns of five": [1, 1, 0, 1],
            "three pairs": [1, 0, 0, 1],
            "lines of seven points": [1, 1, 0, 0],
            "corners of a cube": [1, 0, 0, 0],
            "rows and columns": [1, 0, 1, 0],
            "three threes": [1, 0, 0, 1],
            "a swap far behind": [0, 0, 1, 1],
        }
        groups = {name: (things, given) for name, things, given, order in KNOWN}
        for name, kind in kinds.items():
            things, given = groups[name]
            self.assertEqual(ask_of(things, given, [("kind", 0)]), [kind], name)

    def test_only_the_last_given_turn_tells(self):
        still, swap = [0, 1, 2], [0, 2, 1]
        found = ask([("give", 2, still), ("give", 2, [1, 2, 0]), ("kind", 2), ("give", 2, swap), ("kind", 2)])
        self.assertEqual(found[2::2], [[1, 1, 1, 0], [1, 1, 0, 1]])


if __name__ == "__main__":
    unittest.main()
