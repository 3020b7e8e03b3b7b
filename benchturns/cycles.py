"""The cycles of a turn, and what they tell of it."""

from benchturns.turns import is_still, product


def cycle_from(x, place):
    cycle = [place]
    while x[cycle[-1]] != place:
        cycle.append(x[cycle[-1]])
    return cycle


# Every place is in one cycle; the one that begins with its least place is told.
def cycles_of(x):
    found = [cycle_from(x, place) for place in range(len(x))]
    return [cycle for cycle in found if cycle[0] == min(cycle)]


def is_odd(x):
    return (len(x) - len(cycles_of(x))) % 2 == 1


def times_to_be_still(x):
    times = 1
    made = x
    while not is_still(made):
        made = product(made, x)
        times = times + 1
    return times
