"""The calls on one bench: how they are read, refused and answered."""

from benchturns.cycles import cycles_of, is_odd, times_to_be_still
from benchturns.groups import GROUP_COUNT, Bench
from benchturns.kinds import can_be_swapped, has_no_blocks, has_odd_turn, is_one_orbit
from benchturns.made import closed_table, derived_table, joined_table, shared_table, takes_to_itself
from benchturns.parts import block_parting, orbit_parting
from benchturns.searches import class_count, shortest_word
from benchturns.tables import goal_counts, least_before, makes, number_of, turn_at, turn_count
from benchturns.turns import inverse, is_turn, power, product

MOST_THINGS = 9
MOST_GIVEN = 6
MOST_SEARCHED = 1000

NO_TURN = -1
NOT_THERE = -2
GROUP_IS_FULL = -3
NONE_OF_THE_GROUP = -4
TOO_MANY = -8


def answer_new(bench, numbers, rows):
    bench.begin(numbers[0])
    return [0]


def answer_give(bench, numbers, rows):
    group = bench.groups[numbers[0]]
    if len(group.given) >= MOST_GIVEN:
        return [GROUP_IS_FULL]
    group.give(rows[0])
    return [len(group.given)]


def answer_clear(bench, numbers, rows):
    bench.empty(numbers[0])
    return [0]


def answer_gens(bench, numbers, rows):
    given = bench.groups[numbers[0]].given
    told = [len(given)]
    for turn in given:
        told.extend(turn)
    return told


def answer_order(bench, numbers, rows):
    return [turn_count(bench.groups[numbers[0]].table)]


def answer_chain(bench, numbers, rows):
    return goal_counts(bench.groups[numbers[0]].table)


def answer_orbits(bench, numbers, rows):
    return orbit_parting(bench.things, bench.groups[numbers[0]].given)


def answer_blocks(bench, numbers, rows):
    return block_parting(bench.things, bench.groups[numbers[0]].given, numbers[1], numbers[2])


def answer_kind(bench, numbers, rows):
    given = bench.groups[numbers[0]].given
    return [
        as_number(is_one_orbit(bench.things, given)),
        as_number(has_no_blocks(bench.things, given)),
        as_number(can_be_swapped(given)),
        as_number(has_odd_turn(given)),
    ]


def answer_has(bench, numbers, rows):
    return [as_number(makes(bench.groups[numbers[0]].table, rows[0]))]


def answer_nth(bench, numbers, rows):
    table = bench.groups[numbers[0]].table
    if numbers[1] >= turn_count(table):
        return [NONE_OF_THE_GROUP]
    return turn_at(table, numbers[1])


def answer_place(bench, numbers, rows):
    table = bench.groups[numbers[0]].table
    if not makes(table, rows[0]):
        return [NONE_OF_THE_GROUP]
    return [number_of(table, rows[0])]


def answer_coset(bench, numbers, rows):
    return least_before(bench.groups[numbers[0]].table, 0, rows[0])


def answer_within(bench, numbers, rows):
    outer = bench.groups[numbers[0]]
    inner = bench.groups[numbers[1]]
    return [
        as_number(all([makes(outer.table, x) for x in inner.given])),
        as_number(takes_to_itself(outer.given, inner.table, inner.given)),
    ]


def answer_word(bench, numbers, rows):
    group = bench.groups[numbers[0]]
    if not makes(group.table, rows[0]):
        return [NONE_OF_THE_GROUP]
    if turn_count(group.table) > MOST_SEARCHED:
        return [TOO_MANY]
    word = shortest_word(group.given, rows[0])
    return [len(word)] + word


def answer_class(bench, numbers, rows):
    count = class_count(bench.groups[numbers[0]].given, rows[0], MOST_SEARCHED)
    return [TOO_MANY if count > MOST_SEARCHED else count]


def answer_normal(bench, numbers, rows):
    given = bench.groups[numbers[0]].given
    first = bench.groups[numbers[1]].given
    return put_and_tell(bench, numbers[2], closed_table(bench.things, first, given))


def answer_derived(bench, numbers, rows):
    given = bench.groups[numbers[0]].given
    return put_and_tell(bench, numbers[1], derived_table(bench.things, given))


def answer_meet(bench, numbers, rows):
    one = bench.groups[numbers[0]].table
    other = bench.groups[numbers[1]].table
    if turn_count(one) > MOST_SEARCHED:
        return [TOO_MANY]
    return put_and_tell(bench, numbers[2], shared_table(one, other))


def answer_join(bench, numbers, rows):
    one = bench.groups[numbers[0]].table
    given = bench.groups[numbers[1]].given
    return put_and_tell(bench, numbers[2], joined_table(one, given))


def answer_mul(bench, numbers, rows):
    return product(rows[0], rows[1])


def answer_power(bench, numbers, rows):
    return power(rows[0], numbers[0])


def answer_inverse(bench, numbers, rows):
    return inverse(rows[0])


def answer_cycles(bench, numbers, rows):
    x = rows[0]
    told = [times_to_be_still(x), as_number(is_odd(x)), len(cycles_of(x))]
    for cycle in cycles_of(x):
        told.append(len(cycle))
        told.extend(cycle)
    return told


def put_and_tell(bench, number, table):
    bench.put(number, table)
    return [turn_count(table), len(bench.groups[number].given)]


def as_number(truth):
    return 1 if truth else 0


# By the calls' numbers: what each whole number stands for, how many rows
# follow, and what answers a call that isn't refused for these.
CALLS = (
    (("things",), 0, answer_new),
    (("group",), 1, answer_give),
    (("group",), 0, answer_clear),
    (("group",), 0, answer_gens),
    (("group",), 0, answer_order),
    (("group",), 0, answer_chain),
    (("group",), 0, answer_orbits),
    (("group", "place", "place"), 0, answer_blocks),
    (("group",), 0, answer_kind),
    (("group",), 1, answer_has),
    (("group", "any number"), 0, answer_nth),
    (("group",), 1, answer_place),
    (("group",), 1, answer_coset),
    (("group", "group"), 0, answer_within),
    (("group",), 1, answer_word),
    (("group",), 1, answer_class),
    (("group", "group", "group"), 0, answer_normal),
    (("group", "group"), 0, answer_derived),
    (("group", "group", "group"), 0, answer_meet),
    (("group", "group", "group"), 0, answer_join),
    ((), 2, answer_mul),
    (("any number",), 1, answer_power),
    ((), 1, answer_inverse),
    ((), 1, answer_cycles),
)


def is_there(bench, meaning, number):
    if meaning == "things":
        return 1 <= number <= MOST_THINGS
    if meaning == "group":
        return number < GROUP_COUNT
    if meaning == "place":
        return number < bench.things
    return True


def answer_call(bench, call, numbers, rows):
    for meaning, number in zip(call[0], numbers):
        if not is_there(bench, meaning, number):
            return [NOT_THERE]
    for row in rows:
        if not is_turn(row, bench.things):
            return [NO_TURN]
    answer = call[2]
    return answer(bench, numbers, rows)


def answers(calls):
    bench = Bench()
    told = []
    at = 0
    while at < len(calls):
        call = CALLS[calls[at]]
        numbers = calls[at + 1:at + 1 + len(call[0])]
        at = at + 1 + len(call[0])
        rows = []
        while len(rows) < call[1]:
            rows.append(calls[at + 1:at + 1 + calls[at]])
            at = at + 1 + calls[at]
        answer = answer_call(bench, call, numbers, rows)
        told.append(len(answer))
        told.extend(answer)
    return told
