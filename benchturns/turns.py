"""Turns: rows of n numbers, each place once; the thing on place i goes to place turn[i]."""


def is_turn(row, things):
    return sorted(row) == list(range(things))


def still_turn(things):
    return list(range(things))


# First x, then y.
def product(x, y):
    return [y[goal] for goal in x]


def inverse(x):
    undone = still_turn(len(x))
    for place, goal in enumerate(x):
        undone[goal] = place
    return undone


def power(x, times):
    made = still_turn(len(x))
    doubled = x
    rest = times
    while rest > 0:
        if rest % 2 == 1:
            made = product(made, doubled)
        doubled = product(doubled, doubled)
        rest = rest // 2
    return made


# Undo y, then x, then y.
def taken_along(x, y):
    return product(product(inverse(y), x), y)


# Undo x, undo y, then x, then y.
def commutator(x, y):
    return product(inverse(x), taken_along(x, y))


# As many as there are things, if the turn is still.
def places_left_before_moving(x):
    for place, goal in enumerate(x):
        if goal != place:
            return place
    return len(x)


def is_still(x):
    return places_left_before_moving(x) == len(x)
