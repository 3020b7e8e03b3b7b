"""P3: two turns have one coset answer just if they differ by a turn of g in front. coset and within."""

import itertools
import unittest

from tests.plain import ask, ask_behind, ask_of, every_turn, listing, plain_coset, plain_within, setup, then, undone
from tests.samples import KNOWN, around, drawn


class Coset(unittest.TestCase):
    def check(self, things, given, asked):
        turns = listing(things, given)
        found = ask_of(things, given, [("coset", 0, list(x)) for x in asked])
        self.assertEqual(found, [plain_coset(turns, x) for x in asked])

    def check_one_answer_just_if_they_differ_in_front(self, things, given):
        turns = set(listing(things, given))
        every = every_turn(things)
        found = ask_of(things, given, [("coset", 0, list(x)) for x in every])
        for (x, told), (y, other) in itertools.combinations(zip(every, found), 2):
            self.assertEqual(told == other, then(x, undone(y)) in turns, (x, y))

    def test_known_groups(self):
        for name, things, given, order in KNOWN:
            every = every_turn(things)
            asked = every[::max(1, len(every) // 60)] + [tuple(turn) for turn in given] + every[-1:]
            with self.subTest(name):
                self.check(things, given, asked)

    def test_any_two_turns_of_up_to_three_things(self):
        for things in range(1, 4):
            for given in itertools.product(every_turn(things), repeat=2):
                with self.subTest(given=given):
                    self.check(things, given, every_turn(things))
                    self.check_one_answer_just_if_they_differ_in_front(things, given)

    def test_any_turn_of_four_things(self):
        for turn in every_turn(4):
            with self.subTest(turn=turn):
                self.check(4, [turn], every_turn(4))
                self.check_one_answer_just_if_they_differ_in_front(4, [turn])

    def test_known_groups_of_few_things_every_turn(self):
        for name, things, given, order in KNOWN:
            if things <= 5:
                with self.subTest(name):
                    self.check(things, given, every_turn(things))
                    self.check_one_answer_just_if_they_differ_in_front(things, given)

    def test_drawn_groups(self):
        for name, things, given in drawn(11, 40, 6):
            every = every_turn(things)
            with self.subTest(name, given=given):
                self.check(things, given, every[::max(1, len(every) // 40)])

    def test_in_front_not_behind(self):
        found = ask([("give", 0, [1, 0, 2]), ("coset", 0, [2, 0, 1]), ("coset", 0, [1, 2, 0])])
        self.assertEqual(found[1:], [[0, 2, 1], [1, 2, 0]])

    def test_of_a_group_without_turns(self):
        for things in range(1, 10):
            x = list(range(things))[::-1]
            self.assertEqual(ask_of(things, [], [("coset", 0, x)]), [x])

    def test_a_turn_of_the_group_answers_the_still_turn(self):
        for name, things, given, order in KNOWN:
            turns = listing(things, given)
            asked = turns[::max(1, len(turns) // 30)]
            found = ask_of(things, given, [("coset", 0, list(x)) for x in asked])
            self.assertEqual(found, [list(range(things))] * len(asked), name)

    def test_of_all_turns_and_all_even_turns_of_nine(self):
        before = setup(9, [around(9, [0, 1, 2, 3, 4, 5, 6, 7, 8]), around(9, [0, 1])], [around(9, [0, 1, 2]),
                       around(9, [0, 1, 2, 3, 4, 5, 6, 7, 8])])
        x = [8, 7, 6, 5, 4, 3, 2, 1, 0]
        y = [8, 7, 6, 5, 4, 3, 2, 0, 1]
        found = ask_behind(before, [("coset", group, turn) for group in (0, 1) for turn in (x, y)])
        still = list(range(9))
        self.assertEqual(found, [still, still, still, [0, 1, 2, 3, 4, 5, 6, 8, 7]])


class Within(unittest.TestCase):
    def check(self, things, given, others):
        turns, other_turns = listing(things, given), listing(things, others)
        found = ask(setup(things, given, others) + [("within", 0, 1), ("within", 1, 0), ("within", 0, 0), ("within", 2, 1)])
        self.assertEqual(found[-4:], [plain_within(turns, other_turns), plain_within(other_turns, turns), [1, 1],
                                      [int(len(other_turns) == 1), 1]])

    def test_any_two_groups_of_one_turn(self):
        for things in range(1, 5):
            for x, y in itertools.product(every_turn(things), repeat=2):
                with self.subTest(x=x, y=y):
                    self.check(things, [x], [y])

    def test_known_groups_of_as_many_things(self):
        for one, other in itertools.combinations(KNOWN, 2):
            if one[1] == other[1] and one[3] * other[3] <= 12000:
                with self.subTest(one=one[0], other=other[0]):
                    self.check(one[1], one[2], other[2])

    def test_drawn_groups(self):
        groups = drawn(12, 120, 5)
        for one, other in zip(groups, groups[1:]):
            given = [turn for turn in other[2] if len(turn) == one[1]]
            with self.subTest(one=one, other=given):
                self.check(one[1], one[2], given)
                self.check(one[1], one[2], one[2][1:])

    def test_each_of_the_four_answers(self):
        square = [[1, 2, 3, 0], [0, 3, 2, 1]]
        calls = setup(4, square, [[2, 3, 0, 1]], [[0, 3, 2, 1]], [[1, 2, 0, 3]])
        found = ask(calls + [("within", 0, 1), ("within", 0, 2), ("within", 0, 3)])
        self.assertEqual(found[-3:], [[1, 1], [1, 0], [0, 0]])
        apart = setup(4, [[1, 0, 2, 3]], [[0, 1, 3, 2]])
        self.assertEqual(ask(apart + [("within", 0, 1)])[-1], [0, 1])

    def test_the_second_of_several_turns_tells(self):
        calls = setup(4, [[1, 0, 3, 2], [1, 2, 0, 3]], [[1, 0, 3, 2], [1, 0, 2, 3]], [[1, 0, 3, 2], [2, 3, 0, 1]])
        found = ask(calls + [("within", 0, 1), ("within", 0, 2), ("within", 1, 2), ("within", 2, 1)])
        self.assertEqual(found[-4:], [[0, 0], [1, 1], [0, 1], [0, 1]])

    def test_of_groups_without_turns(self):
        for things in range(1, 10):
            around_all = list(range(1, things)) + [0]
            found = ask(setup(things, [around_all]) + [("within", 0, 1), ("within", 1, 0), ("within", 1, 2)])
            self.assertEqual(found[-3:], [[1, 1], [int(things == 1), 1], [1, 1]])

    def test_of_all_turns_and_all_even_turns_of_nine(self):
        nine = around(9, [0, 1, 2, 3, 4, 5, 6, 7, 8])
        before = setup(9, [nine, around(9, [0, 1])], [nine, around(9, [0, 1, 2])], [nine])
        found = ask_behind(before, [("within", 0, 1), ("within", 1, 0), ("within", 0, 2), ("within", 2, 0)])
        self.assertEqual(found, [[1, 1], [0, 1], [1, 0], [0, 1]])


if __name__ == "__main__":
    unittest.main()
