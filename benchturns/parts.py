"""Ways to part the places. A parting is a row: of each place the least one of its part."""


def each_alone(things):
    return list(range(things))


def joined(parting, a, b):
    low = min(parting[a], parting[b])
    high = max(parting[a], parting[b])
    return [low if part == high else part for part in parting]


def is_all_in_one(parting):
    return max(parting) == 0


# The given turns are enough: undoing a turn is doing it often enough, so
# what a given turn's inverse reaches, that turn reaches too.
def orbit_parting(things, given):
    parting = each_alone(things)
    for turn in given:
        for place, goal in enumerate(turn):
            parting = joined(parting, place, goal)
    return parting


# Joins only what every such parting must have in one part, so none is finer.
def block_parting(things, given, a, b):
    before = each_alone(things)
    parting = joined(before, a, b)
    while parting != before:
        before = parting
        for turn in given:
            parting = carried_on(parting, turn)
    return parting


# Where a place is with the least one of its part, the turn takes both into one part.
def carried_on(parting, turn):
    carried = parting
    for place, least in enumerate(parting):
        carried = joined(carried, turn[place], turn[least])
    return carried
