"""What the tests share: a plain way to ask the bench, and plain slow searches to hold it against."""

import itertools

from benchturns.bench import answers

NAMES = ("new", "give", "clear", "gens", "order", "chain", "orbits", "blocks", "kind", "has", "nth", "place")
MOST_CALLS = 40
GREATEST = 4294967295


def written(calls):
    """Calls such as ("give", 0, [1, 0, 2]) as the one list that answers takes."""
    numbers = []
    for call in calls:
        numbers.append(NAMES.index(call[0]))
        for part in call[1:]:
            if isinstance(part, list):
                numbers.append(len(part))
                numbers.extend(part)
            else:
                numbers.append(part)
    return numbers


def told_apart(numbers, count):
    """The answers to so many calls, one list each."""
    found = []
    at = 0
    while at < len(numbers):
        found.append(numbers[at + 1:at + 1 + numbers[at]])
        if len(found[-1]) != numbers[at]:
            raise AssertionError("an answer ends early")
        at += 1 + numbers[at]
    if len(found) != count:
        raise AssertionError(f"{count} calls, {len(found)} answers")
    return found


def ask(calls):
    if not 1 <= len(calls) <= MOST_CALLS:
        raise AssertionError("a list has 1 to 40 calls")
    return told_apart(answers(written(calls)), len(calls))


def setup(things, given, group=0):
    return [("new", things)] + [("give", group, list(turn)) for turn in given]


def ask_of(things, given, questions, group=0):
    """The answers to questions, however many, each asked of a group given by these turns."""
    before = setup(things, given, group)
    room = MOST_CALLS - len(before)
    found = []
    for start in range(0, len(questions), room):
        some = list(questions[start:start + room])
        found.extend(ask(before + some)[len(before):])
    return found


def then(x, y):
    return tuple(y[goal] for goal in x)


def undone(x):
    return tuple(x.index(place) for place in range(len(x)))


def every_turn(things):
    return list(itertools.permutations(range(things)))


def listing(things, given):
    """All turns that the given ones make, in order, by doing them until nothing new comes."""
    still = tuple(range(things))
    found = {still}
    fresh = [still]
    while fresh:
        later = []
        for x in fresh:
            for y in given:
                made = then(x, tuple(y))
                if made not in found:
                    found.add(made)
                    later.append(made)
        fresh = later
    return sorted(found)


def partings(things):
    """All ways to part the places: of each place the least one of its part."""
    found = [[]]
    for place in range(things):
        found = [row + [part] for row in found for part in sorted(set(row)) + [place]]
    return found


def parts_of(parting):
    return {frozenset(place for place, part in enumerate(parting) if part == least) for least in parting}


def keeps_parts(turns, parting):
    parts = parts_of(parting)
    return all(frozenset(turn[place] for place in part) in parts for turn in turns for part in parts)


def is_finer(one, other):
    """Whether each part of one lies within a part of the other."""
    return all(other[place] == other[least] for place, least in enumerate(one))


def finest(candidates):
    found = [one for one in candidates if all(is_finer(one, other) for other in candidates)]
    if len(found) != 1:
        raise AssertionError("there is just one finest parting")
    return found[0]


def plain_chain(things, turns):
    found = []
    for place in range(things):
        leaving = [turn for turn in turns if all(turn[before] == before for before in range(place))]
        found.append(len({turn[place] for turn in leaving}))
    return found


def plain_orbits(things, turns):
    return [min(turn[place] for turn in turns) for place in range(things)]


def plain_blocks(things, turns, a, b):
    kept = [one for one in partings(things) if one[a] == one[b] and keeps_parts(turns, one)]
    return finest(kept)


def cycle_count(turn):
    seen = set()
    count = 0
    for place in range(len(turn)):
        if place not in seen:
            count += 1
        while place not in seen:
            seen.add(place)
            place = turn[place]
    return count


def plain_kind(things, turns):
    everywhere = all({turn[place] for turn in turns} == set(range(things)) for place in range(things))
    ends = ([0] * things, list(range(things)))
    between = [one for one in partings(things) if one not in ends and keeps_parts(turns, one)]
    alike = all(then(x, y) == then(y, x) for x in turns for y in turns)
    odd = any((things - cycle_count(turn)) % 2 == 1 for turn in turns)
    return [int(everywhere), int(everywhere and not between), int(alike), int(odd)]
