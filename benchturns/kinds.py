"""Of what kind a group is, told from the turns that it was given by."""

from benchturns.cycles import is_odd
from benchturns.parts import block_parting, is_all_in_one, orbit_parting
from benchturns.turns import product


def is_one_orbit(things, given):
    return is_all_in_one(orbit_parting(things, given))


# A part that isn't one place alone can be taken to one that has place 0, for
# there is one orbit; so the parts that join place 0 to another tell of all.
def has_no_blocks(things, given):
    if not is_one_orbit(things, given):
        return False
    return all([is_all_in_one(block_parting(things, given, 0, other)) for other in range(1, things)])


# Turns made of turns that can be swapped can be swapped too.
def can_be_swapped(given):
    for x in given:
        for y in given:
            if product(x, y) != product(y, x):
                return False
    return True


# Turns made of turns that aren't odd aren't odd either.
def has_odd_turn(given):
    return any([is_odd(turn) for turn in given])
