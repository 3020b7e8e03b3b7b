"""new, give, clear and gens; the refusals and P7; the interface."""

import builtins
import contextlib
import io
import itertools
import unittest
from unittest import mock

from benchturns.bench import answers
from tests.plain import GREATEST, MOST_CALLS, ask, written
from tests.samples import KNOWN, around

STATE = [("gens", group) for group in range(4)] + [("order", group) for group in range(4)]
NO_GROUPS = (4, 5, 255, 4294967294, GREATEST)
ROW_OF_A_GROUP = ("give", "has", "place", "coset", "word", "class")
NO_TURNS = (
    [], [0], [1, 0], [0, 1, 2], [0, 1, 2, 3, 4], [0, 1, 2, 3, 3], [0] * 16, list(range(16)), [255] * 16,
    [0, 0, 1, 2], [0, 1, 2, 2], [3, 3, 3, 3], [0, 0, 2, 3], [0, 1, 2, 4], [1, 2, 3, 4], [0, 1, 2, 255],
    [255, 254, 253, 252], [4, 0, 1, 2],
)


class NewGiveClearGens(unittest.TestCase):
    def test_at_the_beginning(self):
        found = ask(STATE + [("nth", 3, 0), ("chain", 1), ("orbits", 2)])
        self.assertEqual(found, [[0]] * 4 + [[1]] * 4 + [[0, 1, 2], [1, 1, 1], [0, 1, 2]])

    def test_three_things_at_the_beginning(self):
        found = ask([("give", 0, [1, 2, 0]), ("give", 0, [1, 0]), ("give", 0, [1, 2, 3, 0]), ("order", 0)])
        self.assertEqual(found, [[1], [-1], [-1], [3]])

    def test_new_for_each_number_of_things(self):
        for things in range(1, 10):
            around_all = list(range(1, things)) + [0]
            found = ask([("new", things), ("give", 0, around_all), ("order", 0), ("nth", 1, 0)])
            self.assertEqual(found, [[0], [1], [things], list(range(things))])

    def test_new_takes_all_turns_away(self):
        given = [("give", group, [1, 2, 0]) for group in range(4)]
        for things in (3, 4, 1):
            found = ask(given + [("new", things)] + STATE)
            self.assertEqual(found, [[1]] * 4 + [[0]] + [[0]] * 4 + [[1]] * 4)

    def test_after_new_turns_are_of_so_many_things(self):
        found = ask([("new", 2), ("give", 0, [1, 2, 0]), ("give", 0, [1, 0]), ("chain", 0), ("new", 3), ("chain", 0)])
        self.assertEqual(found, [[0], [-1], [1], [2, 1], [0], [1, 1, 1]])

    def test_gens_as_given(self):
        found = ask([
            ("give", 1, [2, 0, 1]), ("give", 1, [0, 1, 2]), ("give", 1, [2, 0, 1]), ("give", 1, [0, 2, 1]), ("gens", 1),
        ])
        self.assertEqual(found, [[1], [2], [3], [4], [4, 2, 0, 1, 0, 1, 2, 2, 0, 1, 0, 2, 1]])

    def test_a_turn_once_more_and_the_still_turn_count(self):
        for turn in ([1, 0, 2], [0, 1, 2]):
            found = ask([("give", 0, turn)] * 7 + [("gens", 0), ("order", 0)])
            self.assertEqual(found[:7], [[1], [2], [3], [4], [5], [6], [-3]])
            self.assertEqual(found[7], [6] + turn * 6)
            self.assertEqual(found[8], [1 if turn == [0, 1, 2] else 2])

    def test_clear(self):
        found = ask([("give", 0, [1, 2, 0]), ("give", 1, [1, 0, 2]), ("clear", 0)] + STATE + [("give", 0, [0, 2, 1])])
        self.assertEqual(found[2:], [[0], [0], [1, 1, 0, 2], [0], [0], [1], [2], [1], [1], [1]])

    def test_clear_of_a_full_group_makes_room(self):
        found = ask([("give", 3, [1, 2, 0])] * 7 + [("clear", 3), ("give", 3, [1, 0, 2]), ("gens", 3), ("order", 3)])
        self.assertEqual(found[6:], [[-3], [0], [1], [1, 1, 0, 2], [2]])

    def test_clear_keeps_the_number_of_things(self):
        found = ask([("new", 5), ("give", 0, [1, 0, 2, 3, 4]), ("clear", 0), ("chain", 0), ("nth", 0, 0)])
        self.assertEqual(found[2:], [[0], [1] * 5, [0, 1, 2, 3, 4]])

    def test_clear_and_gens_without_turns(self):
        self.assertEqual(ask([("clear", 2), ("gens", 2), ("clear", 2), ("order", 2)]), [[0], [0], [0], [1]])


class Refusals(unittest.TestCase):
    before = [
        ("new", 4), ("give", 0, [1, 2, 3, 0]), ("give", 0, [0, 3, 2, 1]), ("give", 1, [1, 0, 2, 3]),
        ("give", 3, [1, 2, 0, 3]), ("give", 3, [0, 2, 3, 1]),
    ] + [("give", 2, [1, 0, 3, 2])] * 6

    def check(self, call, refusal):
        with self.subTest(call=call):
            found = ask(self.before + STATE + [call] + STATE + [("nth", 0, 0), ("chain", 0)])
            start = len(self.before)
            first, refused, second = found[start:start + 8], found[start + 8], found[start + 9:start + 17]
            self.assertEqual(refused, [refusal])
            self.assertEqual(second, first)
            self.assertEqual(first[0], [2, 1, 2, 3, 0, 0, 3, 2, 1])
            self.assertEqual([order[0] for order in first[4:]], [8, 2, 2, 12])
            self.assertEqual(found[start + 17:], [[0, 1, 2, 3], [4, 2, 1, 1]])

    def test_no_such_group(self):
        row = [1, 0, 2, 3]
        for group in NO_GROUPS:
            for name in ("clear", "gens", "order", "chain", "orbits", "kind"):
                self.check((name, group), -2)
            for name in ROW_OF_A_GROUP:
                self.check((name, group, row), -2)
            self.check(("blocks", group, 0, 1), -2)
            self.check(("nth", group, 0), -2)

    def test_no_such_group_in_each_place_where_one_stands(self):
        for group in NO_GROUPS:
            for name in ("within", "derived"):
                self.check((name, group, 0), -2)
                self.check((name, 0, group), -2)
                self.check((name, group, group), -2)
            for name in ("normal", "meet", "join"):
                for wrong in itertools.product((False, True), repeat=3):
                    if any(wrong):
                        self.check((name,) + tuple(group if one else 2 for one in wrong), -2)

    def test_a_number_of_power_is_no_group(self):
        for times in NO_GROUPS:
            found = ask(self.before + [("power", times, [1, 0, 3, 2])])[-1]
            self.assertEqual(found, [[0, 1, 2, 3], [1, 0, 3, 2]][times % 2])

    def test_groups_that_are_there(self):
        for group in range(4):
            self.assertEqual(ask([("clear", group), ("order", group), ("give", group, [0, 1, 2])]), [[0], [1], [1]])

    def test_no_such_number_of_things(self):
        for things in (0, 10, 11, 16, 255, 4294967294, GREATEST):
            self.check(("new", things), -2)

    def test_no_such_place(self):
        for place in (4, 5, 8, 9, GREATEST):
            self.check(("blocks", 0, place, 0), -2)
            self.check(("blocks", 0, 0, place), -2)
            self.check(("blocks", 0, place, place), -2)

    def test_places_follow_the_number_of_things(self):
        for things in range(1, 10):
            last = things - 1
            found = ask([("new", things), ("blocks", 0, last, last), ("blocks", 0, things, last), ("blocks", 0, 0, things)])
            self.assertEqual(found, [[0], list(range(things)), [-2], [-2]])

    def test_rows_that_are_no_turns(self):
        for row in NO_TURNS:
            for name in ROW_OF_A_GROUP:
                self.check((name, 0, row), -1)
            for times in (0, 1, GREATEST):
                self.check(("power", times, row), -1)
            self.check(("inverse", row), -1)
            self.check(("cycles", row), -1)

    def test_either_row_of_mul_is_no_turn(self):
        turn = [1, 0, 2, 3]
        for row in NO_TURNS:
            self.check(("mul", row, turn), -1)
            self.check(("mul", turn, row), -1)
            self.check(("mul", row, row), -1)
        self.check(("mul", [0, 1, 2], [0, 1, 2]), -1)
        self.check(("mul", [], []), -1)

    def test_rows_that_are_no_turns_of_one_thing_and_nine(self):
        one = [("new", 1)] + [("has", 0, row) for row in ([], [1], [0, 0], [0, 1], [0])]
        self.assertEqual(ask(one)[1:], [[-1], [-1], [-1], [-1], [1]])
        rows = (list(range(8)), list(range(10)), list(range(1, 10)), [0] * 9, list(range(9)))
        self.assertEqual(ask([("new", 9)] + [("place", 0, row) for row in rows])[1:], [[-1], [-1], [-1], [-1], [0]])
        for name in ("inverse", "cycles"):
            found = ask([("new", 1)] + [(name, row) for row in ([], [1], [0, 0], [0, 1], [0])])[1:]
            self.assertEqual(found[:4], [[-1]] * 4)
            self.assertGreaterEqual(found[4][0], 0)
            found = ask([("new", 9)] + [(name, row) for row in rows])[1:]
            self.assertEqual(found[:4], [[-1]] * 4)
            self.assertGreaterEqual(found[4][0], 0)

    def test_a_seventh_turn(self):
        for row in ([1, 2, 3, 0], [0, 1, 2, 3], [1, 0, 3, 2]):
            self.check(("give", 2, row), -3)

    def test_none_of_the_group(self):
        for number in (8, 9, 24, GREATEST):
            self.check(("nth", 0, number), -4)
        self.check(("nth", 1, 2), -4)
        self.check(("place", 0, [1, 0, 2, 3]), -4)
        self.check(("place", 3, [1, 0, 2, 3]), -4)
        self.check(("word", 0, [1, 0, 2, 3]), -4)
        self.check(("word", 3, [1, 0, 2, 3]), -4)

    def test_two_faults_at_once(self):
        for group in NO_GROUPS:
            for name in ROW_OF_A_GROUP:
                self.check((name, group, [0, 0, 1]), -2)
                self.check((name, group, []), -2)
                self.check((name, group, list(range(16))), -2)
            self.check(("nth", group, GREATEST), -2)
            self.check(("blocks", group, 4, GREATEST), -2)
        self.check(("give", 2, [0, 0, 1, 2]), -1)
        self.check(("give", 2, []), -1)
        self.check(("place", 0, [0, 0, 1, 2]), -1)
        self.check(("word", 0, [0, 0, 1, 2]), -1)

    def test_the_calls_behind_a_refused_one_are_read(self):
        found = ask([("give", 9, [7] * 16), ("new", 0), ("give", 0, []), ("blocks", 7, 7, 7), ("nth", 5, 5), ("order", 0)])
        self.assertEqual(found, [[-2], [-2], [-1], [-2], [-2], [1]])

    def test_the_calls_behind_a_refused_one_of_several_groups_or_rows_are_read(self):
        found = ask([
            ("mul", [7] * 16, []), ("mul", [], [5]), ("power", GREATEST, [9] * 16), ("normal", 4, 5, 6), ("meet", 0, 0, 7),
            ("join", 7, 0, 0), ("derived", 9, 9), ("within", 9, 9), ("coset", 4, []), ("word", 0, []), ("class", 9, [1] * 16),
            ("inverse", []), ("cycles", [3, 3]), ("order", 0),
        ])
        self.assertEqual(found, [[-1], [-1], [-1], [-2], [-2], [-2], [-2], [-2], [-2], [-1], [-2], [-1], [-1], [1]])


class RefusalsOfLargeGroups(unittest.TestCase):
    nine = around(9, [0, 1, 2, 3, 4, 5, 6, 7, 8])
    swap = around(9, [0, 1])
    before = [
        ("new", 9), ("give", 0, nine), ("give", 0, swap), ("give", 1, nine), ("give", 1, around(9, [0, 1, 2])),
        ("give", 2, nine), ("join", 0, 0, 3),
    ]

    def check(self, call, refusal):
        with self.subTest(call=call):
            found = ask(self.before + STATE + [call] + STATE)[len(self.before):]
            self.assertEqual(found[8], [refusal])
            self.assertEqual(found[9:], found[:8])
            self.assertEqual([gens[0] for gens in found[:4]], [2, 2, 1, 8])
            self.assertEqual([order[0] for order in found[4:8]], [362880, 181440, 9, 362880])

    def test_too_many_turns(self):
        for put in range(4):
            for group in range(4):
                self.check(("meet", 0, group, put), -8)
                self.check(("meet", 1, group, put), -8)
                self.check(("meet", 3, group, put), -8)
        self.check(("word", 0, self.swap), -8)
        self.check(("word", 3, list(range(9))), -8)
        self.check(("class", 0, self.nine), -8)
        self.check(("class", 3, self.nine), -8)

    def test_more_than_six_turns(self):
        self.check(("give", 3, self.swap), -3)
        self.check(("give", 3, list(range(8))), -1)
        self.check(("give", 4, self.swap), -2)

    def test_two_faults_at_once(self):
        self.check(("word", 1, self.swap), -4)
        self.check(("word", 1, self.swap[:8]), -1)
        self.check(("word", 4, self.swap), -2)
        self.check(("class", 0, self.nine[:8] + [8]), -1)
        self.check(("class", GREATEST, self.nine), -2)
        self.check(("meet", 0, 0, 4), -2)
        self.check(("meet", 0, 4, 0), -2)
        self.check(("meet", 4, 0, 0), -2)


class Interface(unittest.TestCase):
    mixed = [
        ("new", 5), ("give", 0, [1, 2, 3, 4, 0]), ("give", 1, [1, 0, 2, 3, 4]), ("give", 2, [0, 1, 3, 4, 2]),
        ("give", 1, [0, 2, 1, 3, 4]), ("order", 0), ("order", 1), ("order", 2), ("order", 3), ("chain", 1), ("orbits", 2),
        ("kind", 0), ("kind", 3), ("has", 2, [0, 1, 4, 2, 3]), ("has", 3, [0, 1, 4, 2, 3]), ("nth", 1, 5), ("place", 0, [4, 0, 1, 2, 3]),
        ("clear", 1), ("order", 1), ("order", 2), ("gens", 0), ("give", 7, [1]), ("blocks", 2, 2, 3), ("nth", 3, 1),
        ("coset", 2, [4, 3, 2, 1, 0]), ("within", 0, 3), ("word", 0, [3, 4, 0, 1, 2]), ("class", 0, [1, 0, 2, 3, 4]),
        ("normal", 0, 2, 1), ("derived", 1, 3), ("meet", 3, 0, 2), ("join", 2, 3, 3), ("gens", 3), ("mul", [1, 0, 2, 3, 4], [4, 3, 2, 1, 0]),
        ("power", 7, [1, 2, 3, 4, 0]), ("inverse", [1, 2, 3, 4, 0]), ("cycles", [1, 0, 2, 4, 3]),
    ]
    mixed_told = [
        [0], [1], [1], [1],
        [2], [5], [6], [3], [1], [3, 2, 1, 1, 1], [0, 1, 2, 2, 2],
        [1, 1, 1, 0], [0, 0, 1, 0], [1], [0], [2, 1, 0, 3, 4], [4],
        [0], [1], [3], [1, 1, 2, 3, 4, 0], [-2], [0, 1, 2, 2, 2], [-4],
        [4, 3, 0, 2, 1], [1, 1], [3, 0, 0, 0], [5],
        [60, 3], [60, 3], [5, 1], [60, 3], [3, 0, 1, 3, 4, 2, 0, 2, 1, 4, 3, 1, 0, 2, 4, 3], [3, 4, 2, 1, 0],
        [2, 3, 4, 0, 1], [4, 0, 1, 2, 3], [2, 0, 3, 2, 0, 1, 1, 2, 2, 3, 4],
    ]

    def test_one_call_as_numbers(self):
        self.assertEqual(answers([0, 9]), [1, 0])
        self.assertEqual(answers([0, 0]), [1, -2])
        self.assertEqual(answers([1, 0, 3, 1, 2, 0]), [1, 1])
        self.assertEqual(answers([1, 0, 0]), [1, -1])
        self.assertEqual(answers([2, 3]), [1, 0])
        self.assertEqual(answers([3, 0]), [1, 0])
        self.assertEqual(answers([4, 1]), [1, 1])
        self.assertEqual(answers([5, 2]), [3, 1, 1, 1])
        self.assertEqual(answers([6, 0]), [3, 0, 1, 2])
        self.assertEqual(answers([7, 0, 2, 1]), [3, 0, 1, 1])
        self.assertEqual(answers([8, 0]), [4, 0, 0, 1, 0])
        self.assertEqual(answers([9, 0, 3, 0, 1, 2]), [1, 1])
        self.assertEqual(answers([10, 0, 0]), [3, 0, 1, 2])
        self.assertEqual(answers([10, 0, GREATEST]), [1, -4])
        self.assertEqual(answers([11, 0, 3, 0, 1, 2]), [1, 0])
        self.assertEqual(answers([12, 0, 3, 2, 0, 1]), [3, 2, 0, 1])
        self.assertEqual(answers([13, 0, 1]), [2, 1, 1])
        self.assertEqual(answers([14, 0, 3, 0, 1, 2]), [1, 0])
        self.assertEqual(answers([14, 0, 3, 0, 2, 1]), [1, -4])
        self.assertEqual(answers([15, 0, 3, 0, 2, 1]), [1, 1])
        self.assertEqual(answers([16, 0, 1, 2]), [2, 1, 0])
        self.assertEqual(answers([17, 0, 1]), [2, 1, 0])
        self.assertEqual(answers([18, 0, 1, 2]), [2, 1, 0])
        self.assertEqual(answers([19, 0, 1, 2]), [2, 1, 0])
        self.assertEqual(answers([20, 3, 1, 0, 2, 3, 0, 2, 1]), [3, 2, 0, 1])
        self.assertEqual(answers([21, 2, 3, 1, 2, 0]), [3, 2, 0, 1])
        self.assertEqual(answers([22, 3, 1, 2, 0]), [3, 2, 0, 1])
        self.assertEqual(answers([23, 3, 2, 1, 0]), [8, 2, 1, 2, 2, 0, 2, 1, 1])

    def test_several_calls_as_numbers(self):
        calls = [1, 0, 3, 1, 2, 0, 1, 0, 3, 0, 2, 1, 3, 0, 4, 0, 8, 0, 10, 0, 4, 11, 0, 3, 2, 0, 1]
        told = [1, 1, 1, 2, 7, 2, 1, 2, 0, 0, 2, 1, 1, 6, 4, 1, 1, 0, 1, 3, 2, 0, 1, 1, 4]
        self.assertEqual(answers(calls), told)

    def test_several_later_calls_as_numbers(self):
        calls = [1, 0, 3, 1, 2, 0, 1, 1, 3, 0, 2, 1, 19, 0, 1, 2, 3, 2, 12, 0, 3, 1, 0, 2, 13, 2, 0, 14, 2, 3, 2, 1, 0,
                 15, 0, 3, 1, 0, 2, 16, 0, 1, 3, 17, 2, 3, 18, 2, 0, 3, 20, 3, 1, 2, 0, 3, 0, 2, 1, 21, 5, 3, 1, 2, 0]
        told = [1, 1, 1, 1, 2, 6, 2, 7, 2, 0, 2, 1, 1, 0, 2, 3, 0, 2, 1, 2, 1, 1, 4, 3, 0, 1, 0,
                1, 3, 2, 6, 2, 2, 3, 1, 2, 3, 1, 3, 2, 1, 0, 3, 2, 0, 1]
        self.assertEqual(answers(calls), told)

    def test_four_groups_mixed(self):
        self.assertEqual(ask(self.mixed), self.mixed_told)

    def test_forty_calls(self):
        calls = [("new", 9)] + [("give", 0, around(9, [0, 1, 2, 3, 4, 5, 6, 7, 8])), ("give", 0, around(9, [3, 4]))]
        calls += [("nth", 0, number * 9973) for number in range(MOST_CALLS - len(calls))]
        found = ask(calls)
        self.assertEqual(len(found), MOST_CALLS)
        rows = found[3:]
        self.assertEqual(rows, sorted(rows))
        places = ask(calls[:3] + [("place", 0, row) for row in rows])
        self.assertEqual(places[3:], [[number * 9973] for number in range(len(rows))])

    def test_what_is_handed_in_is_not_changed(self):
        calls = written(self.mixed)
        as_it_was = list(calls)
        answers(calls)
        self.assertEqual(calls, as_it_was)

    def test_what_is_handed_in_is_not_changed_for_a_while_either(self):
        def refuse(*unused, **unused_too):
            raise AssertionError("the list handed in was changed")

        changing = ("__setitem__", "__delitem__", "__iadd__", "__imul__", "append", "extend", "insert", "pop", "remove",
                    "clear", "sort", "reverse")
        watched = type("Watched", (list,), {name: refuse for name in changing})
        calls = written(self.mixed)
        self.assertEqual(answers(watched(calls)), answers(calls))

    def test_the_same_list_twice(self):
        calls = written(self.mixed)
        first = answers(calls)
        as_told = list(first)
        answers(written([("new", 9), ("give", 0, around(9, [0, 8]))]))
        first.clear()
        self.assertEqual(answers(calls), as_told)

    def test_nothing_is_kept_from_one_time_to_the_next(self):
        answers(written([("new", 9)] + [("give", group, around(9, [0, 8])) for group in range(4)]))
        self.assertEqual(ask(STATE + [("chain", 0)]), [[0]] * 4 + [[1]] * 4 + [[1, 1, 1]])

    def test_whole_numbers_in_a_list(self):
        later = [("new", 0), ("new", 1), ("kind", 0), ("has", 0, [0]), ("has", 0, []), ("within", 0, 1), ("cycles", [0])]
        for calls in (self.mixed, later):
            told = answers(written(calls))
            self.assertIs(type(told), list)
            self.assertEqual({type(number) for number in told}, {int})

    def test_it_prints_reads_and_imports_nothing(self):
        def refuse(*unused, **unused_too):
            raise AssertionError("it reads or imports")

        calls = written(self.mixed)
        out, err = io.StringIO(), io.StringIO()
        with contextlib.redirect_stdout(out), contextlib.redirect_stderr(err):
            with mock.patch.object(builtins, "open", refuse), mock.patch.object(builtins, "input", refuse):
                with mock.patch.object(builtins, "__import__", refuse):
                    told = answers(calls)
        self.assertEqual((out.getvalue(), err.getvalue()), ("", ""))
        self.assertEqual(told, answers(calls))

    def test_known_groups_in_any_of_the_four(self):
        for name, things, given, order in KNOWN:
            for group in range(4):
                calls = [("new", things)] + [("give", group, turn) for turn in given]
                calls += [("order", other) for other in range(4)]
                found = ask(calls)[-4:]
                self.assertEqual(found, [[order] if other == group else [1] for other in range(4)], name)


if __name__ == "__main__":
    unittest.main()
