"""Turns: rows of n numbers, each place once; the thing on place i goes to place turn[i]."""


def is_turn(row, things):
    return sorted(row) == list(range(things))


def still_turn(things):
    return list(range(things))


# First x, then y.
def product(x, y):
    return [y[goal] for goal in x]


def inverse(x):
    undone = still_turn(len(x))
    for place, goal in enumerate(x):
        undone[goal] = place
    return undone


# As many as there are things, if the turn is still.
def places_left_before_moving(x):
    for place, goal in enumerate(x):
        if goal != place:
            return place
    return len(x)


def is_still(x):
    return places_left_before_moving(x) == len(x)
