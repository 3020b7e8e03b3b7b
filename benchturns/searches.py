"""Searches from turn to turn, by the turns that a group is told by."""

from benchturns.turns import product, still_turn, taken_along


# Shorter words come before longer ones, and of one length the first by their
# letters; so the word by which a turn is reached first is the one asked for.
# x is one that the given turns make.
def shortest_word(given, x):
    reached = [still_turn(len(x))]
    words = {tuple(reached[0]): []}
    at = 0
    while tuple(x) not in words:
        before = reached[at]
        for letter, turn in enumerate(given):
            after = product(before, turn)
            if tuple(after) not in words:
                words[tuple(after)] = words[tuple(before)] + [letter]
                reached.append(after)
        at = at + 1
    return words[tuple(x)]


# How many turns x is taken to; some number above most, if there are more.
def class_count(given, x, most):
    found = {tuple(x): True}
    pending = [x]
    while len(pending) > 0 and len(found) <= most:
        before = pending.pop()
        for turn in given:
            after = taken_along(before, turn)
            if tuple(after) not in found:
                found[tuple(after)] = True
                pending.append(after)
    return len(found)
