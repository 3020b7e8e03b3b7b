"""P5: no word is shorter. word and class, against all words and all turns; the line at 1,000."""

import itertools
import unittest

from tests.plain import ask, ask_behind, ask_of, every_turn, listing, plain_class, plain_words, setup, taken_along, then
from tests.samples import KNOWN, around, drawn

FIVE = [around(9, [0, 1, 2, 3, 4]), around(9, [0, 1])]
JUST_FEWER = FIVE + [around(9, [5, 6, 7, 8]), around(9, [5, 7])]
JUST_MORE = [around(9, [0, 1, 2]), around(9, [1, 2, 3, 4, 5], [6, 7, 8])]
NINE = [around(9, [0, 1, 2, 3, 4, 5, 6, 7, 8]), around(9, [0, 1])]


def done(things, given, word):
    made = tuple(range(things))
    for letter in word:
        made = then(made, tuple(given[letter]))
    return list(made)


class Word(unittest.TestCase):
    def check(self, things, given):
        words = plain_words(things, given)
        found = ask_of(things, given, [("word", 0, list(x)) for x in words])
        self.assertEqual(found, [[len(word)] + word for word in words.values()])

    def test_any_two_turns_of_up_to_four_things(self):
        for things in range(1, 5):
            for given in itertools.product(every_turn(things), repeat=2):
                with self.subTest(given=given):
                    self.check(things, given)

    def test_any_three_turns_of_three_things(self):
        for given in itertools.product(every_turn(3), repeat=3):
            with self.subTest(given=given):
                self.check(3, given)

    def test_known_groups(self):
        for name, things, given, order in KNOWN:
            if order <= 200:
                with self.subTest(name):
                    self.check(things, given)

    def test_drawn_groups(self):
        for name, things, given in drawn(21, 60, 5):
            with self.subTest(name, given=given):
                if len(listing(things, given)) <= 24:
                    self.check(things, given)

    def test_the_still_turn_has_no_letters(self):
        for things in range(1, 10):
            still = list(range(things))
            around_all = still[1:] + still[:1]
            for given in ([], [still], [around_all], [still, around_all], [around_all, around_all]):
                self.assertEqual(ask_of(things, given, [("word", 0, still)]), [[0]])

    def test_letters_are_done_in_this_order(self):
        found = ask([("give", 0, [1, 0, 2]), ("give", 0, [0, 2, 1]), ("word", 0, [2, 0, 1]), ("word", 0, [1, 2, 0])])
        self.assertEqual(found[2:], [[2, 0, 1], [2, 1, 0]])

    def test_of_several_the_first_by_their_letters(self):
        self.assertEqual(ask_of(4, [[0, 1, 3, 2], [1, 0, 2, 3]], [("word", 0, [1, 0, 3, 2])]), [[2, 0, 1]])
        self.assertEqual(ask_of(3, [[1, 0, 2], [0, 2, 1]], [("word", 0, [2, 1, 0])]), [[3, 0, 1, 0]])
        self.assertEqual(ask_of(3, [[0, 2, 1], [1, 0, 2]], [("word", 0, [2, 1, 0])]), [[3, 0, 1, 0]])

    def test_a_turn_given_twice_and_the_still_turn(self):
        given = [[0, 1, 2], [1, 2, 0], [1, 2, 0], [0, 1, 2], [1, 0, 2], [1, 2, 0]]
        found = ask_of(3, given, [("word", 0, list(x)) for x in every_turn(3)])
        self.assertEqual(found, [[0], [2, 1, 4], [1, 4], [1, 1], [2, 1, 1], [2, 4, 1]])
        self.assertEqual(ask_of(3, [[1, 2, 0]] * 6, [("word", 0, [2, 0, 1])]), [[2, 0, 0]])

    def test_a_longer_turn_given_makes_shorter_words(self):
        nine = around(9, list(range(9)))
        x = done(9, [nine], [0] * 8)
        found = ask([("new", 9), ("give", 0, nine), ("word", 0, x), ("give", 0, done(9, [nine], [0] * 4)), ("word", 0, x),
                     ("give", 0, x), ("word", 0, x)])
        self.assertEqual(found[2::2], [[8] + [0] * 8, [2, 1, 1], [1, 2]])

    def test_of_groups_told_by_their_own_turns(self):
        square, swap = [[1, 2, 3, 0], [0, 3, 2, 1]], [[1, 0, 2, 3]]
        makers = [("join", 0, 1, 2), ("normal", 0, 1, 2), ("derived", 0, 2), ("meet", 0, 1, 2), ("join", 0, 0, 2), ("meet", 0, 0, 2)]
        for maker in makers:
            before = setup(4, square, swap) + [maker]
            numbers = ask(before + [("gens", 2)])[-1]
            own = [tuple(numbers[1 + start:5 + start]) for start in range(0, 4 * numbers[0], 4)]
            words = plain_words(4, own)
            found = ask_behind(before, [("word", 2, list(x)) for x in every_turn(4)])
            with self.subTest(maker=maker):
                self.assertEqual(found, [[len(words[x])] + words[x] if x in words else [-4] for x in every_turn(4)])

    def test_letters_of_own_turns_by_hand(self):
        before = [("give", 0, [1, 2, 0]), ("give", 0, [1, 0, 2]), ("word", 0, [2, 0, 1]), ("join", 0, 1, 0), ("gens", 0)]
        found = ask(before + [("word", 0, [1, 2, 0]), ("word", 0, [2, 1, 0])])
        self.assertEqual(found[2:], [[2, 0, 0], [6, 2], [2, 0, 2, 1, 1, 0, 2], [2, 0, 1], [3, 0, 1, 0]])

    def test_none_of_the_group(self):
        for name, things, given, order in KNOWN:
            turns = listing(things, given)
            others = [x for x in itertools.islice(itertools.permutations(range(things)), 0, 5000, 97) if x not in turns]
            found = ask_of(things, given, [("word", 0, list(x)) for x in others])
            self.assertEqual(found, [[-4]] * len(others), name)


class WordAtTheLine(unittest.TestCase):
    def test_just_fewer_than_a_thousand(self):
        turns = listing(9, JUST_FEWER)
        found = ask_of(9, JUST_FEWER, [("order", 0)] + [("word", 0, list(x)) for x in turns])
        self.assertEqual(found[0], [960])
        # Each turn by the letters for the five and for the four behind them, which can be swapped.
        fives, fours = plain_words(9, JUST_FEWER[:2]), plain_words(9, JUST_FEWER[2:])
        for x, told in zip(turns, found[1:]):
            five = fives[x[:5] + (5, 6, 7, 8)]
            four = [letter + 2 for letter in fours[(0, 1, 2, 3, 4) + x[5:]]]
            self.assertEqual(told, [len(five) + len(four)] + five + four)

    def test_just_more_than_a_thousand(self):
        questions = [("order", 0), ("word", 0, list(range(9))), ("word", 0, JUST_MORE[0]), ("word", 0, around(9, [0, 1]))]
        self.assertEqual(ask_of(9, JUST_MORE, questions), [[1080], [-8], [-8], [-4]])

    def test_a_turn_that_is_none_of_a_large_group(self):
        even = [around(9, [0, 1, 2]), NINE[0]]
        questions = [("word", 0, around(9, [0, 1])), ("word", 0, around(9, [0, 1, 2])), ("word", 0, list(range(9)))]
        self.assertEqual(ask_of(9, even, questions), [[-4], [-8], [-8]])
        self.assertEqual(ask_of(9, NINE, questions), [[-8]] * 3)

    def test_seven_hundred_and_twenty(self):
        given = [[1, 2, 3, 4, 5, 0], [1, 0, 2, 3, 4, 5]]
        found = ask_of(6, given, [("word", 0, list(x)) for x in every_turn(6)])
        for x, told in zip(every_turn(6), found):
            self.assertEqual(told[0], len(told) - 1)
            self.assertEqual(done(6, given, told[1:]), list(x))
        # All words of up to nine letters, by length and then by letters.
        first = {}
        for length in range(10):
            for word in itertools.product((0, 1), repeat=length):
                first.setdefault(tuple(done(6, given, word)), list(word))
        for x, told in zip(every_turn(6), found):
            if x in first:
                self.assertEqual(told[1:], first[x])
            else:
                self.assertGreater(told[0], 9)


class Class(unittest.TestCase):
    def check(self, things, given, asked):
        turns = listing(things, given)
        found = ask_of(things, given, [("class", 0, list(x)) for x in asked])
        self.assertEqual(found, [[plain_class(turns, x)] for x in asked])

    def test_any_turn_of_up_to_four_things_and_every_turn_asked(self):
        for things in range(1, 5):
            for turn in every_turn(things):
                with self.subTest(turn=turn):
                    self.check(things, [turn], every_turn(things))

    def test_known_groups(self):
        for name, things, given, order in KNOWN:
            every = every_turn(things)
            if order <= 720:
                with self.subTest(name):
                    self.check(things, given, every[::max(1, len(every) // 25)])

    def test_drawn_groups(self):
        for name, things, given in drawn(22, 50, 5):
            with self.subTest(name, given=given):
                self.check(things, given, every_turn(things)[::7])

    def test_of_a_group_without_turns(self):
        for things in range(1, 10):
            self.assertEqual(ask_of(things, [], [("class", 0, list(range(things))[::-1])]), [[1]])

    def test_the_turn_needs_not_be_of_the_group(self):
        found = ask([("give", 0, [1, 2, 0]), ("has", 0, [1, 0, 2]), ("class", 0, [1, 0, 2]), ("class", 0, [1, 2, 0])])
        self.assertEqual(found[1:], [[0], [3], [1]])

    def test_classes_of_all_turns_of_nine(self):
        sizes = (
            ([], 1), ([[0, 1]], 36), ([[0, 1, 2]], 168), ([[0, 1], [2, 3]], 378), ([[5, 6, 7, 8]], 756),
            ([[0, 1], [2, 3], [4, 5], [6, 7]], 945), ([[0, 1], [2, 3], [4, 5]], -8), ([[0, 1, 2, 3, 4]], -8),
            ([[0, 1, 2], [3, 4, 5], [6, 7, 8]], -8), ([[0, 1, 2, 3, 4, 5, 6, 7, 8]], -8),
        )
        for cycles, size in sizes:
            with self.subTest(cycles=cycles):
                self.assertEqual(ask_of(9, NINE, [("class", 0, around(9, *cycles))]), [[size]])

    def test_just_fewer_and_just_more_than_a_thousand(self):
        turns = listing(9, JUST_MORE)
        every = listing(9, JUST_FEWER)
        x = (1, 5, 6, 2, 7, 8, 3, 4, 0)
        self.assertEqual(len({taken_along(x, y) for y in every}), 960)
        self.assertEqual(ask_of(9, JUST_FEWER, [("class", 0, list(x))]), [[960]])
        self.assertEqual(len({taken_along(x, y) for y in turns}), 1080)
        self.assertEqual(ask_of(9, JUST_MORE, [("class", 0, list(x)), ("class", 0, list(range(9)))]), [[-8], [1]])

    def test_of_a_group_told_by_its_own_turns(self):
        before = setup(9, NINE) + [("derived", 0, 0)]
        found = ask_behind(before, [("class", 0, around(9, [0, 1])), ("class", 0, around(9, [0, 1, 2]))])
        self.assertEqual(found, [[36], [168]])


if __name__ == "__main__":
    unittest.main()
