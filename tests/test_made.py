"""P6: groups made have just what's told; told by their own turns, whatever they were given by.

normal, derived, meet and join against plain searches for the least group with what is told.
"""

import itertools
import unittest

from tests.plain import (ask, ask_behind, every_turn, listing, plain_blocks, plain_chain, plain_derived, plain_join, plain_kind,
                         plain_meet, plain_normal, plain_orbits, plain_own, rows, setup, undone)
from tests.samples import KNOWN, around, drawn

NINE = [around(9, [0, 1, 2, 3, 4, 5, 6, 7, 8]), around(9, [0, 1])]
EVEN_OF_NINE = [around(9, [0, 1, 2, 3, 4, 5, 6, 7, 8]), around(9, [0, 1, 2])]
ALL_OF_NINE = 362880
SWAPS_OF_NINE = [around(9, [place, place + 1]) for place in range(7, -1, -1)]
STATE = [("gens", group) for group in range(4)] + [("order", group) for group in range(4)]


def told(things, turns):
    """What is answered where these turns are put, and what gens then answers."""
    own = plain_own(things, turns)
    return [[len(turns), len(own)], rows(own)]


def made_by(things, given, others):
    """The calls that make a group of groups 0 and 1, with all its turns by a plain search."""
    turns, other_turns = listing(things, given), listing(things, others)
    return (
        (("normal", 0, 1), plain_normal(things, turns, other_turns)),
        (("normal", 1, 0), plain_normal(things, other_turns, turns)),
        (("derived", 0), plain_derived(things, turns)),
        (("derived", 1), plain_derived(things, other_turns)),
        (("meet", 0, 1), plain_meet(things, turns, other_turns)),
        (("meet", 1, 0), plain_meet(things, turns, other_turns)),
        (("join", 0, 1), plain_join(things, turns, other_turns)),
        (("join", 1, 0), plain_join(things, turns, other_turns)),
    )


class AgainstPlainSearch(unittest.TestCase):
    def check(self, things, given, others):
        before = setup(things, given, others)
        questions, expected = [], []
        for call, turns in made_by(things, given, others):
            questions += [call + (2,), ("gens", 2)]
            expected += told(things, turns)
        self.assertEqual(ask_behind(before, questions), expected)

    def test_any_two_groups_of_one_turn(self):
        for things in range(1, 4):
            for x, y in itertools.product(every_turn(things), repeat=2):
                with self.subTest(x=x, y=y):
                    self.check(things, [x], [y])

    def test_some_groups_of_four_things(self):
        every = every_turn(4)
        for x, y in itertools.product(every[::2], every[::3]):
            with self.subTest(x=x, y=y):
                self.check(4, [x], [y])
                self.check(4, [x, every[7]], [y])

    def test_known_groups_of_as_many_things(self):
        for one, other in itertools.product(KNOWN, repeat=2):
            if one[1] == other[1] <= 6 and one[3] <= 60 and other[3] <= 60:
                with self.subTest(one=one[0], other=other[0]):
                    self.check(one[1], one[2], other[2])

    def test_known_groups_of_more_things_with_themselves(self):
        for name, things, given, order in KNOWN:
            if things > 6 and order <= 60:
                with self.subTest(name):
                    self.check(things, given, given[:1])
                    self.check(things, given, [])

    def test_drawn_groups(self):
        groups = drawn(31, 90, 5)
        for one, other in zip(groups, groups[1:]):
            given = [turn for turn in other[2] if len(turn) == one[1]]
            with self.subTest(one=one, other=given):
                self.check(one[1], one[2], given)

    def test_of_groups_without_turns(self):
        for things in range(1, 10):
            calls = [("normal", 0, 1, 2), ("derived", 0, 2), ("meet", 0, 1, 2), ("join", 0, 1, 2)]
            for call in calls:
                self.assertEqual(ask([("new", things), call] + STATE)[1:], [[1, 0]] + [[0]] * 4 + [[1]] * 4)

    def test_of_one_group_without_turns(self):
        for things in range(2, 10):
            swap = around(things, [0, things - 1])
            before = setup(things, [swap])
            found = ask_behind(before, [("normal", 0, 1, 2), ("normal", 1, 0, 2), ("gens", 2), ("meet", 0, 1, 2), ("meet", 1, 0, 2),
                                        ("gens", 2), ("join", 0, 1, 2), ("gens", 2), ("join", 1, 0, 2), ("gens", 2)])
            self.assertEqual(found, [[1, 0], [2, 1], [1] + swap, [1, 0], [1, 0], [0], [2, 1], [1] + swap, [2, 1], [1] + swap])


class ByHand(unittest.TestCase):
    def test_normal(self):
        around_and_swap = [[1, 2, 3, 0], [1, 0, 2, 3]]
        calls = setup(4, around_and_swap, [[1, 0, 3, 2]]) + [("normal", 0, 1, 2), ("gens", 2), ("within", 0, 2)]
        self.assertEqual(ask(calls)[-3:], [[4, 2], [2, 1, 0, 3, 2, 2, 3, 0, 1], [1, 1]])

    def test_normal_of_a_turn_that_is_none_of_the_group(self):
        calls = setup(4, [[1, 2, 0, 3]], [[0, 1, 3, 2]]) + [("normal", 0, 1, 2), ("order", 0), ("order", 1)]
        self.assertEqual(ask(calls)[-3:], [[24, 3], [3], [2]])
        apart = setup(4, [[1, 0, 2, 3]], [[0, 1, 3, 2]]) + [("normal", 0, 1, 2), ("gens", 2)]
        self.assertEqual(ask(apart)[-2:], [[2, 1], [1, 0, 1, 3, 2]])

    def test_derived_again_and_again(self):
        calls = setup(4, [[1, 2, 3, 0], [1, 0, 2, 3]]) + [("derived", 0, 0), ("gens", 0)] * 4
        self.assertEqual(ask(calls)[3:], [
            [12, 2], [2, 0, 2, 3, 1, 1, 0, 3, 2], [4, 2], [2, 1, 0, 3, 2, 2, 3, 0, 1], [1, 0], [0], [1, 0], [0],
        ])

    def test_derived_of_five_stays(self):
        calls = setup(5, [[1, 2, 3, 4, 0], [1, 2, 0, 3, 4]]) + [("derived", 0, 1), ("within", 0, 1), ("within", 1, 0)]
        self.assertEqual(ask(calls)[-3:], [[60, 3], [1, 1], [1, 1]])

    def test_meet(self):
        square, other_square = [[1, 2, 3, 0], [0, 3, 2, 1]], [[1, 3, 0, 2], [3, 1, 2, 0]]
        calls = setup(4, square, other_square) + [("order", 0), ("order", 1), ("meet", 0, 1, 2), ("gens", 2)]
        self.assertEqual(ask(calls)[-4:], [[8], [8], [4, 2], [2, 1, 0, 3, 2, 2, 3, 0, 1]])

    def test_join(self):
        calls = setup(3, [[1, 2, 0]], [[1, 0, 2]]) + [("join", 0, 1, 3), ("gens", 3), ("gens", 0), ("gens", 1)]
        self.assertEqual(ask(calls)[-4:], [[6, 2], [2, 0, 2, 1, 1, 0, 2], [1, 1, 2, 0], [1, 1, 0, 2]])

    def test_own_turns_of_around(self):
        calls = setup(4, [[3, 0, 1, 2]]) + [("join", 0, 0, 1), ("gens", 1)]
        self.assertEqual(ask(calls)[-2:], [[4, 1], [1, 1, 2, 3, 0]])

    def test_own_turns_where_the_first_goal_does_not_make_all(self):
        given = [around(6, [0, 1], [2, 3], [4, 5]), around(6, [0, 2, 4], [1, 5, 3])]
        calls = setup(6, given) + [("join", 0, 1, 1), ("gens", 1)]
        self.assertEqual(ask(calls)[-2:], told(6, listing(6, given)))


class WhereItIsPut(unittest.TestCase):
    def check(self, things, given, others, call, turns):
        places = call[1:] + (2, 3)
        for put in sorted(set(places)):
            before = setup(things, given, others)
            found = ask(before + STATE + [call + (put,)] + STATE)[len(before):]
            expected = list(found[:8])
            answer, gens = told(things, turns)
            expected[put], expected[put + 4] = gens, answer[:1]
            with self.subTest(call=call, put=put):
                self.assertEqual(found[8], answer)
                self.assertEqual(found[9:], expected)

    def test_k_is_g_or_h_or_another(self):
        pairs = (
            (4, [[1, 2, 3, 0], [0, 3, 2, 1]], [[1, 2, 0, 3], [0, 2, 3, 1]]),
            (5, [[1, 2, 0, 4, 3]], [[0, 1, 3, 4, 2], [1, 0, 2, 3, 4]]),
            (3, [[2, 0, 1], [2, 0, 1]], []),
        )
        for things, given, others in pairs:
            for call, turns in made_by(things, given, others):
                self.check(things, given, others, call, turns)

    def test_all_three_alike(self):
        for name, things, given, order in KNOWN:
            if order <= 60:
                turns = listing(things, given)
                for call in (("normal", 0, 0, 0), ("meet", 0, 0, 0), ("join", 0, 0, 0)):
                    found = ask(setup(things, given) + [call, ("gens", 0), ("order", 0), call, ("gens", 0)])[-5:]
                    answer, gens = told(things, turns)
                    self.assertEqual(found, [answer, gens, [len(turns)], answer, gens], (name, call))
                found = ask(setup(things, given) + [("derived", 0, 0), ("gens", 0)])[-2:]
                self.assertEqual(found, told(things, plain_derived(things, turns)), name)

    def test_the_groups_it_was_made_of_stay_apart_from_it(self):
        for call in (("join", 0, 1, 2), ("normal", 0, 0, 2), ("meet", 0, 0, 2)):
            calls = [("new", 4), ("give", 0, [1, 2, 3, 0]), call, ("give", 2, [1, 0, 2, 3]), ("order", 2), ("order", 0),
                     ("gens", 0), ("give", 0, [0, 3, 2, 1]), ("order", 0), ("order", 2), ("order", 1)]
            found = ask(calls)[2:]
            self.assertEqual(found, [[4, 1], [2], [24], [4], [1, 1, 2, 3, 0], [2], [8], [24], [1]], call)

    def test_given_on_behind_its_own_turns(self):
        calls = setup(4, [[1, 0, 2, 3], [1, 2, 0, 3]]) + [("join", 0, 0, 0), ("gens", 0), ("give", 0, [0, 1, 3, 2]), ("gens", 0),
                                                          ("order", 0), ("join", 0, 0, 0), ("gens", 0)]
        self.assertEqual(ask(calls)[3:], [
            [6, 2], [2, 0, 2, 1, 3, 1, 0, 2, 3], [3], [3, 0, 2, 1, 3, 1, 0, 2, 3, 0, 1, 3, 2], [24],
            [24, 3], [3, 0, 1, 3, 2, 0, 2, 1, 3, 1, 0, 2, 3],
        ])


class WhateverItWasGivenBy(unittest.TestCase):
    def test_other_turns_given_and_other_calls(self):
        for name, things, given, order in KNOWN:
            turns = [tuple(turn) for turn in given]
            ways = [turns, turns[::-1], [undone(x) for x in turns], turns[::-1] + turns[:1]]
            gens = set()
            for way in ways:
                calls = setup(things, way[:1], way[1:], way) + [("join", 0, 1, 3), ("gens", 3), ("join", 1, 0, 3), ("gens", 3)]
                calls += [("normal", 2, 2, 3), ("gens", 3), ("join", 3, 2, 3), ("gens", 3), ("normal", 1, 2, 3), ("gens", 3)]
                if order <= 1000:
                    calls += [("meet", 2, 2, 3), ("gens", 3)]
                found = ask(calls)[1 + 2 * len(way):]
                self.assertEqual({answer[0] for answer in found[::2]}, {order}, name)
                self.assertEqual({answer[1] for answer in found[::2]}, {answer[0] for answer in found[1::2]}, name)
                gens |= {tuple(answer) for answer in found[1::2]}
            self.assertEqual(len(gens), 1, name)

    def test_own_turns_against_plain_search(self):
        for name, things, given, order in KNOWN:
            with self.subTest(name):
                found = ask(setup(things, given) + [("join", 0, 1, 2), ("gens", 2)])[-2:]
                self.assertEqual(found, told(things, listing(things, given)))

    def test_own_turns_of_drawn_groups(self):
        for name, things, given in drawn(32, 60, 6):
            with self.subTest(name, given=given):
                found = ask(setup(things, given) + [("join", 0, 1, 2), ("gens", 2)])[-2:]
                self.assertEqual(found, told(things, listing(things, given)))

    def test_what_is_told_of_groups_made(self):
        groups = [group for group in KNOWN if group[1] <= 5]
        for one, other in itertools.product(groups, repeat=2):
            if one[1] == other[1]:
                things = one[1]
                for call, turns in made_by(things, one[2], other[2]):
                    with self.subTest(one=one[0], other=other[0], call=call):
                        self.check_all_told(things, setup(things, one[2], other[2]) + [call + (2,)], turns)

    def check_all_told(self, things, before, turns):
        asked = every_turn(things)[::5] + turns[-2:]
        questions = [("order", 2), ("chain", 2), ("orbits", 2), ("kind", 2), ("nth", 2, len(turns)), ("blocks", 2, 0, things - 1)]
        expected = [[len(turns)], plain_chain(things, turns), plain_orbits(things, turns), plain_kind(things, turns), [-4],
                    plain_blocks(things, turns, 0, things - 1)]
        for x in asked:
            questions += [("has", 2, list(x)), ("place", 2, list(x))]
            expected += [[int(x in turns)], [turns.index(x)] if x in turns else [-4]]
        for number in range(0, len(turns), 4):
            questions.append(("nth", 2, number))
            expected.append(list(turns[number]))
        self.assertEqual(ask_behind(before, questions), expected)


class AllTurnsOfNine(unittest.TestCase):
    swaps = [number for swap in SWAPS_OF_NINE for number in swap]

    def test_more_than_six_own_turns(self):
        calls = setup(9, NINE) + [
            ("join", 0, 0, 1), ("gens", 1), ("give", 1, around(9, [3, 5])), ("give", 1, list(range(9))), ("gens", 1), ("order", 1),
            ("clear", 1), ("gens", 1), ("order", 1), ("give", 1, around(9, [3, 5])), ("gens", 1), ("gens", 0),
        ]
        self.assertEqual(ask(calls)[3:], [
            [ALL_OF_NINE, 8], [8] + self.swaps, [-3], [-3], [8] + self.swaps, [ALL_OF_NINE],
            [0], [0], [1], [1], [1] + around(9, [3, 5]), rows(NINE),
        ])

    def test_made_in_different_ways(self):
        before = setup(9, NINE, [around(9, [2, 7])], EVEN_OF_NINE)
        for call in (("join", 1, 2, 3), ("join", 2, 1, 3), ("normal", 0, 1, 3), ("normal", 2, 1, 3), ("normal", 1, 0, 3),
                     ("join", 0, 2, 3), ("join", 2, 0, 2), ("join", 0, 0, 0), ("normal", 0, 1, 1)):
            found = ask(before + [call, ("gens", call[3]), ("chain", call[3])])[-3:]
            self.assertEqual(found, [[ALL_OF_NINE, 8], [8] + self.swaps, [9, 8, 7, 6, 5, 4, 3, 2, 1]], call)

    def test_seven_swaps_leave_no_room_either(self):
        calls = [("new", 8), ("give", 0, around(8, [0, 1, 2, 3, 4, 5, 6, 7])), ("give", 0, around(8, [0, 1])), ("join", 0, 0, 0),
                 ("give", 0, list(range(8))), ("gens", 0)]
        own = [around(8, [place, place + 1]) for place in range(6, -1, -1)]
        self.assertEqual(ask(calls)[3:], [[40320, 7], [-3], rows(own)])

    def test_six_own_turns_leave_no_room_and_five_do(self):
        for things, room in ((7, [-3]), (6, [6])):
            calls = setup(things, [list(range(1, things)) + [0], around(things, [0, 1])]) + [("join", 0, 0, 0),
                                                                                            ("give", 0, list(range(things)))]
            self.assertEqual(ask(calls)[-1], room)

    def test_derived_of_all_turns_is_the_even_ones(self):
        calls = setup(9, NINE, EVEN_OF_NINE) + [
            ("derived", 0, 2), ("gens", 2), ("kind", 2), ("join", 1, 1, 1), ("gens", 1), ("derived", 2, 3), ("gens", 3),
            ("within", 2, 1), ("within", 1, 2), ("normal", 0, 1, 3), ("gens", 3),
        ]
        found = ask(calls)[5:]
        own = found[1]
        self.assertEqual(own, [7] + [number for place in range(6, -1, -1) for number in self.least_even(place)])
        self.assertEqual(found, [[181440, 7], own, [1, 1, 0, 0], [181440, 7], own, [181440, 7], own, [1, 1], [1, 1],
                                 [181440, 7], own])

    def least_even(self, place):
        """The least even turn that leaves all before this place and takes it to the next one."""
        return around(9, [6, 7, 8]) if place == 6 else around(9, [place, place + 1], [7, 8])


class MeetAtTheLine(unittest.TestCase):
    fewer = [around(9, [0, 1, 2, 3, 4]), around(9, [0, 1]), around(9, [5, 6, 7, 8]), around(9, [5, 7])]
    more = [around(9, [0, 1, 2]), around(9, [1, 2, 3, 4, 5], [6, 7, 8])]

    def test_g_is_large(self):
        for given, order in ((self.more, 1080), (NINE, ALL_OF_NINE)):
            for group, put in itertools.product((0, 1, 2), range(4)):
                before = setup(9, given, self.fewer)
                found = ask(before + STATE + [("meet", 0, group, put)] + STATE)[len(before):]
                self.assertEqual(found[4], [order])
                self.assertEqual(found[8], [-8])
                self.assertEqual(found[9:], found[:8])

    def test_h_is_large_and_g_is_not(self):
        for others in (self.more, NINE, EVEN_OF_NINE):
            found = ask(setup(9, self.fewer, others) + [("order", 0), ("meet", 0, 1, 2), ("gens", 2)])[-3:]
            large = set(every_turn(9)) if others is NINE else set(listing(9, others))
            shared = [turn for turn in listing(9, self.fewer) if turn in large]
            self.assertEqual(found, [[960]] + told(9, shared))

    def test_just_fewer_with_itself_and_with_none(self):
        calls = setup(9, self.fewer) + [("meet", 0, 0, 1), ("gens", 1), ("join", 0, 0, 2), ("gens", 2), ("meet", 0, 3, 0), ("gens", 0)]
        found = ask(calls)[5:]
        self.assertEqual(found[:2], found[2:4])
        self.assertEqual(found[0], [960, 6])
        self.assertEqual(found[4:], [[1, 0], [0]])


if __name__ == "__main__":
    unittest.main()
