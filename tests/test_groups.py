"""P1 and P2: a group has just what's made of the turns given; order, chain, has, nth, place."""

import itertools
import unittest

from tests.plain import GREATEST, ask, ask_of, every_turn, listing, plain_chain, then, undone
from tests.samples import KNOWN, around, drawn

ALL_OF_NINE = 362880


class AgainstListing(unittest.TestCase):
    def check_counts(self, things, given):
        turns = listing(things, given)
        found = ask_of(things, given, [("order", 0), ("chain", 0)])
        self.assertEqual(found, [[len(turns)], plain_chain(things, turns)])

    def check_every_turn_asked(self, things, given):
        turns = listing(things, given)
        every = every_turn(things)
        has = ask_of(things, given, [("has", 0, list(turn)) for turn in every])
        place = ask_of(things, given, [("place", 0, list(turn)) for turn in every])
        self.assertEqual(has, [[int(turn in turns)] for turn in every])
        self.assertEqual(place, [[turns.index(turn)] if turn in turns else [-4] for turn in every])

    def check_every_number_asked(self, things, given):
        turns = listing(things, given)
        numbers = list(range(len(turns))) + [len(turns), len(turns) + 1, GREATEST]
        found = ask_of(things, given, [("nth", 0, number) for number in numbers])
        self.assertEqual(found, [list(turn) for turn in turns] + [[-4]] * 3)
        places = ask_of(things, given, [("place", 0, list(turn)) for turn in turns])
        self.assertEqual(places, [[number] for number in range(len(turns))])

    def test_known_groups(self):
        for name, things, given, order in KNOWN:
            with self.subTest(name):
                self.assertEqual(ask_of(things, given, [("order", 0)]), [[order]])
                self.check_counts(things, given)
                self.check_every_number_asked(things, given)

    def test_known_groups_of_few_things_every_turn(self):
        for name, things, given, order in KNOWN:
            if things <= 6:
                with self.subTest(name):
                    self.check_every_turn_asked(things, given)

    def test_any_two_turns_of_up_to_four_things(self):
        for things in range(1, 5):
            for given in itertools.product(every_turn(things), repeat=2):
                with self.subTest(given=given):
                    self.check_counts(things, given)
                    self.check_every_turn_asked(things, given)
                    self.check_every_number_asked(things, given)

    def test_drawn_groups(self):
        for name, things, given in drawn(1, 60, 6):
            with self.subTest(name, given=given):
                self.check_counts(things, given)
                self.check_every_number_asked(things, given)

    def test_drawn_groups_of_more_things(self):
        for name, things, given in drawn(2, 25, 8):
            with self.subTest(name, given=given):
                self.check_counts(things, given)


class MadeOfThoseGiven(unittest.TestCase):
    def test_still_products_and_inverses(self):
        for name, things, given, order in KNOWN:
            rows = [tuple(turn) for turn in given]
            made = [tuple(range(things))] + rows + [undone(x) for x in rows]
            made += [then(x, y) for x in made for y in made]
            with self.subTest(name):
                found = ask_of(things, given, [("has", 0, list(turn)) for turn in made])
                self.assertEqual(found, [[1]] * len(made))

    def test_a_turn_that_they_do_not_make(self):
        self.assertEqual(ask_of(3, [[1, 2, 0]], [("has", 0, [1, 0, 2])]), [[0]])
        self.assertEqual(ask_of(9, [around(9, [0, 1, 2])], [("has", 0, around(9, [0, 1]))]), [[0]])
        self.assertEqual(ask_of(4, [], [("has", 0, [0, 1, 3, 2])]), [[0]])

    def test_nth_tells_where_things_go(self):
        self.assertEqual(ask_of(4, [[1, 2, 3, 0]], [("nth", 0, 1), ("nth", 0, 3)]), [[1, 2, 3, 0], [3, 0, 1, 2]])

    def test_group_without_turns_has_the_still_turn_alone(self):
        for things in range(1, 10):
            still = list(range(things))
            questions = [("order", 0), ("chain", 0), ("has", 0, still), ("nth", 0, 0), ("nth", 0, 1), ("place", 0, still)]
            with self.subTest(things=things):
                self.assertEqual(ask_of(things, [], questions), [[1], [1] * things, [1], still, [-4], [0]])

    def test_six_turns_given(self):
        given = [around(7, [place, place + 1]) for place in range(6)]
        questions = [("order", 0), ("chain", 0), ("nth", 0, 5039), ("place", 0, [6, 5, 4, 3, 2, 1, 0])]
        self.assertEqual(ask_of(7, given, questions), [[5040], [7, 6, 5, 4, 3, 2, 1], [6, 5, 4, 3, 2, 1, 0], [5039]])

    def test_what_is_told_follows_each_turn_given(self):
        found = ask([
            ("new", 4), ("order", 0), ("give", 0, [1, 0, 2, 3]), ("order", 0), ("give", 0, [0, 1, 3, 2]), ("order", 0),
            ("give", 0, [2, 3, 0, 1]), ("order", 0), ("give", 0, [2, 3, 1, 0]), ("order", 0), ("give", 0, [1, 2, 0, 3]),
            ("order", 0), ("clear", 0), ("order", 0),
        ])
        self.assertEqual([answer[0] for answer in found[1::2]], [1, 2, 4, 8, 8, 24, 1])


class AllTurnsOfNine(unittest.TestCase):
    ways = (
        [[1, 2, 3, 4, 5, 6, 7, 8, 0], [1, 0, 2, 3, 4, 5, 6, 7, 8]],
        [around(9, [0, 1, 2, 3, 4, 5, 6, 7]), around(9, [8, 3])],
        [around(9, [0, 1]), around(9, [1, 2, 3]), around(9, [3, 4, 5]), around(9, [5, 6]), around(9, [6, 7]),
         around(9, [7, 8])],
    )

    def test_counts(self):
        for given in self.ways:
            found = ask_of(9, given, [("order", 0), ("chain", 0), ("kind", 0)])
            self.assertEqual(found, [[ALL_OF_NINE], [9, 8, 7, 6, 5, 4, 3, 2, 1], [1, 1, 0, 1]])

    def test_numbers_and_places(self):
        picked = [0, 1, 2, 40319, 40320, ALL_OF_NINE - 2, ALL_OF_NINE - 1] + list(range(5, ALL_OF_NINE, 3989))
        every = every_turn(9)
        for given in self.ways:
            turns = ask_of(9, given, [("nth", 0, number) for number in picked])
            self.assertEqual(turns, [list(every[number]) for number in picked])
            places = ask_of(9, given, [("place", 0, turn) for turn in turns])
            self.assertEqual(places, [[number] for number in picked])
            self.assertEqual(ask_of(9, given, [("has", 0, turn) for turn in turns]), [[1]] * len(turns))

    def test_there_is_none_beyond(self):
        for given in self.ways:
            questions = [("nth", 0, ALL_OF_NINE), ("nth", 0, ALL_OF_NINE + 1), ("nth", 0, GREATEST)]
            self.assertEqual(ask_of(9, given, questions), [[-4]] * 3)

    def test_even_turns_of_nine(self):
        given = [around(9, [0, 1, 2]), [0, 2, 3, 4, 5, 6, 7, 8, 1], around(9, [0, 1, 2, 3, 4, 5, 6, 7, 8])]
        even = given[::2]
        found = ask_of(9, even, [
            ("order", 0), ("chain", 0), ("kind", 0), ("has", 0, around(9, [0, 1])), ("place", 0, around(9, [0, 1])),
            ("nth", 0, 0), ("nth", 0, 1), ("nth", 0, 181439), ("nth", 0, 181440),
        ])
        self.assertEqual(found, [
            [181440], [9, 8, 7, 6, 5, 4, 3, 1, 1], [1, 1, 0, 0], [0], [-4],
            list(range(9)), [0, 1, 2, 3, 4, 5, 7, 8, 6], [8, 7, 6, 5, 4, 3, 2, 1, 0], [-4],
        ])
        self.assertEqual(ask_of(9, given, [("order", 0)]), [[ALL_OF_NINE]])


class WhateverItWasGivenBy(unittest.TestCase):
    def test_other_turns_same_answers(self):
        for name, things, given, order in KNOWN:
            turns = listing(things, given)
            with self.subTest(name):
                first = self.all_told(things, given, turns)
                for other in self.other_ways(turns, things, given):
                    self.assertEqual(self.all_told(things, other, turns), first)

    def other_ways(self, turns, things, given):
        rows = [tuple(turn) for turn in given]
        ways = [rows[::-1], [undone(x) for x in rows]]
        if 0 < len(rows) < 6:
            ways.append(rows + [then(rows[0], rows[-1])])
            ways.append([tuple(range(things))] + rows)
            ways.append([then(rows[0], rows[-1])] + rows[:-1] if len(rows) > 1 else [undone(rows[0])])
        ways.append(self.taken_from_the_end(turns))
        for way in ways:
            self.assertEqual(listing(things, way), turns)
        return ways

    def taken_from_the_end(self, turns):
        things = len(turns[0])
        way, made = [], [turns[0]]
        for turn in turns[::-1]:
            if turn not in made:
                way.append(turn)
                made = listing(things, way)
        return way

    def all_told(self, things, given, turns):
        questions = [("order", 0), ("chain", 0), ("orbits", 0), ("kind", 0), ("nth", 0, len(turns))]
        questions += [("blocks", 0, a, b) for a in range(things) for b in range(things)]
        picked = turns[::max(1, len(turns) // 20)]
        questions += [("nth", 0, turns.index(turn)) for turn in picked]
        swapped = [(turn[1], turn[0]) + turn[2:] if things > 1 else turn for turn in picked]
        for turn in picked + swapped:
            questions += [("has", 0, list(turn)), ("place", 0, list(turn))]
        return ask_of(things, given, questions)


if __name__ == "__main__":
    unittest.main()
