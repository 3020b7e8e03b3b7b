"""What the tests share: a plain way to ask the bench, and plain slow searches to hold it against."""

import itertools
import math

from benchturns.bench import answers

NAMES = ("new", "give", "clear", "gens", "order", "chain", "orbits", "blocks", "kind", "has", "nth", "place",
         "coset", "within", "word", "class", "normal", "derived", "meet", "join", "mul", "power", "inverse", "cycles")
MOST_CALLS = 40
GREATEST = 4294967295


def written(calls):
    """Calls such as ("give", 0, [1, 0, 2]) as the one list that answers takes."""
    numbers = []
    for call in calls:
        numbers.append(NAMES.index(call[0]))
        for part in call[1:]:
            if isinstance(part, list):
                numbers.append(len(part))
                numbers.extend(part)
            else:
                numbers.append(part)
    return numbers


def told_apart(numbers, count):
    """The answers to so many calls, one list each."""
    found = []
    at = 0
    while at < len(numbers):
        found.append(numbers[at + 1:at + 1 + numbers[at]])
        if len(found[-1]) != numbers[at]:
            raise AssertionError("an answer ends early")
        at += 1 + numbers[at]
    if len(found) != count:
        raise AssertionError(f"{count} calls, {len(found)} answers")
    return found


def ask(calls):
    if not 1 <= len(calls) <= MOST_CALLS:
        raise AssertionError("a list has 1 to 40 calls")
    return told_apart(answers(written(calls)), len(calls))


def setup(things, *groups):
    """The calls that give these turns to group 0, 1 and so on."""
    calls = [("new", things)]
    for group, given in enumerate(groups):
        calls += [("give", group, list(turn)) for turn in given]
    return calls


def ask_behind(before, questions):
    """The answers to questions, however many, each asked behind these calls."""
    room = MOST_CALLS - len(before)
    found = []
    for start in range(0, len(questions), room):
        some = list(questions[start:start + room])
        found.extend(ask(before + some)[len(before):])
    return found


def ask_of(things, given, questions):
    """The answers to questions, however many, each asked of group 0 given by these turns."""
    return ask_behind(setup(things, given), questions)


def then(x, y):
    return tuple(y[goal] for goal in x)


def undone(x):
    return tuple(x.index(place) for place in range(len(x)))


def taken_along(x, y):
    """Undo y, then x, then y."""
    return then(then(undone(y), x), y)


def every_turn(things):
    return list(itertools.permutations(range(things)))


def listing(things, given):
    """All turns that the given ones make, in order, by doing them until nothing new comes."""
    still = tuple(range(things))
    found = {still}
    fresh = [still]
    while fresh:
        later = []
        for x in fresh:
            for y in given:
                made = then(x, tuple(y))
                if made not in found:
                    found.add(made)
                    later.append(made)
        fresh = later
    return sorted(found)


def partings(things):
    """All ways to part the places: of each place the least one of its part."""
    found = [[]]
    for place in range(things):
        found = [row + [part] for row in found for part in sorted(set(row)) + [place]]
    return found


def parts_of(parting):
    return {frozenset(place for place, part in enumerate(parting) if part == least) for least in parting}


def keeps_parts(turns, parting):
    parts = parts_of(parting)
    return all(frozenset(turn[place] for place in part) in parts for turn in turns for part in parts)


def is_finer(one, other):
    """Whether each part of one lies within a part of the other."""
    return all(other[place] == other[least] for place, least in enumerate(one))


def finest(candidates):
    found = [one for one in candidates if all(is_finer(one, other) for other in candidates)]
    if len(found) != 1:
        raise AssertionError("there is just one finest parting")
    return found[0]


def plain_chain(things, turns):
    found = []
    for place in range(things):
        leaving = [turn for turn in turns if all(turn[before] == before for before in range(place))]
        found.append(len({turn[place] for turn in leaving}))
    return found


def plain_orbits(things, turns):
    return [min(turn[place] for turn in turns) for place in range(things)]


def plain_blocks(things, turns, a, b):
    kept = [one for one in partings(things) if one[a] == one[b] and keeps_parts(turns, one)]
    return finest(kept)


def cycle_count(turn):
    seen = set()
    count = 0
    for place in range(len(turn)):
        if place not in seen:
            count += 1
        while place not in seen:
            seen.add(place)
            place = turn[place]
    return count


def plain_kind(things, turns):
    everywhere = all({turn[place] for turn in turns} == set(range(things)) for place in range(things))
    ends = ([0] * things, list(range(things)))
    between = [one for one in partings(things) if one not in ends and keeps_parts(turns, one)]
    alike = all(then(x, y) == then(y, x) for x in turns for y in turns)
    odd = any((things - cycle_count(turn)) % 2 == 1 for turn in turns)
    return [int(everywhere), int(everywhere and not between), int(alike), int(odd)]


def rows(turns):
    """Turns as gens tells them: how many, then all their numbers."""
    return [len(turns)] + [number for turn in turns for number in turn]


def plain_coset(turns, x):
    return list(min(then(y, x) for y in turns))


def plain_within(turns, others):
    taken = all(taken_along(x, y) in others for x in others for y in turns)
    return [int(set(others) <= set(turns)), int(taken)]


def plain_class(turns, x):
    return len({taken_along(x, y) for y in turns})


def plain_words(things, given):
    """Of each turn that the given ones make, the first of all words, by length and then by letters."""
    turns = listing(things, given)
    found = {}
    length = 0
    while len(found) < len(turns):
        for word in itertools.product(range(len(given)), repeat=length):
            made = tuple(range(things))
            for letter in word:
                made = then(made, tuple(given[letter]))
            found.setdefault(made, list(word))
        length += 1
    return found


def plain_normal(things, turns, others):
    found = listing(things, others)
    before = None
    while found != before:
        before = found
        found = listing(things, {taken_along(x, y) for x in found for y in turns} | set(found))
    return found


def plain_derived(things, turns):
    return listing(things, {then(then(undone(x), undone(y)), then(x, y)) for x in turns for y in turns})


def plain_meet(things, turns, others):
    return sorted(set(turns) & set(others))


def plain_join(things, turns, others):
    return listing(things, turns + others)


def plain_own(things, turns):
    kept = []
    for place in range(things - 1, -1, -1):
        leaving = [turn for turn in turns if turn[:place] == tuple(range(place))]
        for goal in range(place + 1, things):
            taking = [turn for turn in leaving if turn[place] == goal]
            if taking and min(taking) not in listing(things, kept):
                kept.append(min(taking))
    return kept


def plain_power(times, x):
    made = tuple(range(len(x)))
    for time in range(times):
        made = then(made, x)
    return list(made)


def plain_cycles(x):
    found = []
    for place in range(len(x)):
        if not any(place in cycle for cycle in found):
            cycle = [place]
            while x[cycle[-1]] != place:
                cycle.append(x[cycle[-1]])
            found.append(cycle)
    times = math.lcm(*[len(cycle) for cycle in found])
    told = [times, (len(x) - len(found)) % 2, len(found)]
    for cycle in found:
        told += [len(cycle)] + cycle
    return told
