"""Tables of groups that are made of other groups."""

from benchturns.tables import add_turn, all_turns, makes, table_without_turns
from benchturns.turns import commutator, taken_along


# The least group that has the first turns and that the given ones take to
# itself. A turn that is made already is taken along where those that make it are.
def closed_table(things, first, given):
    table = table_without_turns(things)
    pending = list(first)
    while len(pending) > 0:
        x = pending.pop()
        if not makes(table, x):
            add_turn(table, x)
            pending.extend([taken_along(x, y) for y in given])
    return table


# Once the given turns can be swapped but for turns of a group that they take
# to itself, so can all that they make; so these pairs tell of all pairs.
def derived_table(things, given):
    first = []
    for x in given:
        first.extend([commutator(x, y) for y in given])
    return closed_table(things, first, given)


def shared_table(one, other):
    table = table_without_turns(len(one))
    for x in all_turns(one):
        if makes(other, x):
            add_turn(table, x)
    return table


def joined_table(one, given):
    table = [list(row) for row in one]
    for x in given:
        add_turn(table, x)
    return table


# The given turns are enough: no two turns are taken to the same one, so what
# is taken into a group fills it, and undoing a given turn keeps it too.
def takes_to_itself(given, table, made_by):
    for y in given:
        if not all([makes(table, taken_along(x, y)) for x in made_by]):
            return False
    return True
