"""A group's own turns, which are the same whatever turns the group was given by."""

from benchturns.parts import orbit_parting
from benchturns.tables import goals, least_before


# All turns that leave a place and those before it are made by what is kept
# until that place's row; so what is kept makes the least turn to a goal just
# if it takes the place to that goal at all.
def own_turns(table):
    things = len(table)
    kept = []
    for place in range(things - 1, -1, -1):
        for goal in goals(table[place]):
            orbits = orbit_parting(things, kept)
            if orbits[goal] != orbits[place]:
                kept.append(least_before(table, place + 1, table[place][goal]))
    return kept
