"""Tables of turns that tell all turns of a group, without a list of them.

Row i of a table has, of each place j to which turns of the group that leave
all places before i take i, one such turn at j, else None. Every turn of the
group is made in just one way of one turn of each row, the last row's first.
"""

from benchturns.turns import inverse, is_still, places_left_before_moving, product, still_turn


def table_without_turns(things):
    table = []
    for place in range(things):
        row = [None for goal in range(things)]
        row[place] = still_turn(things)
        table.append(row)
    return table


# What is left of x when, row by row, the table's turns are undone behind it:
# the still turn just if the table's turns make x.
def what_is_left(table, x):
    left = x
    for place, row in enumerate(table):
        kept = row[left[place]]
        if kept is None:
            return left
        left = product(left, inverse(kept))
    return left


def moving_turns(table):
    moving = []
    for place, row in enumerate(table):
        for goal, kept in enumerate(row):
            if kept is not None and goal != place:
                moving.append(kept)
    return moving


# The table tells a group once the product of any two turns in it is made by
# it; so each turn that comes in is tried with all of them, on either side.
def add_turn(table, x):
    pending = [x]
    while len(pending) > 0:
        left = what_is_left(table, pending.pop())
        if not is_still(left):
            place = places_left_before_moving(left)
            table[place][left[place]] = left
            for kept in moving_turns(table):
                pending.append(product(kept, left))
                pending.append(product(left, kept))


def goals(row):
    return [goal for goal, kept in enumerate(row) if kept is not None]


def goal_counts(table):
    return [len(goals(row)) for row in table]


def turn_count(table):
    count = 1
    for goal_count in goal_counts(table):
        count = count * goal_count
    return count


def makes(table, x):
    return is_still(what_is_left(table, x))


# The turns that begin with the same numbers are equally many, whatever these
# are; so the number of a turn is told place by place. What is chosen in the
# rows so far is done last, and takes the goals of the next row elsewhere.
def turn_at(table, number):
    chosen = still_turn(len(table))
    count = turn_count(table)
    rest = number
    for row in table:
        count = count // len(goals(row))
        images = sorted([chosen[goal] for goal in goals(row)])
        goal = chosen.index(images[rest // count])
        rest = rest % count
        chosen = product(row[goal], chosen)
    return chosen


# The other way round than turn_at; x is one that the table makes.
def number_of(table, x):
    chosen = still_turn(len(table))
    number = 0
    for place, row in enumerate(table):
        lower = [goal for goal in goals(row) if chosen[goal] < x[place]]
        number = number * len(goals(row)) + len(lower)
        goal = chosen.index(x[place])
        chosen = product(row[goal], chosen)
    return number


# The least of all "first one that the rows from this one on make, then x":
# place by place, the goal that x and what is chosen so far take lowest.
def least_before(table, start, x):
    chosen = x
    for row in table[start:]:
        lowest = min([chosen[goal] for goal in goals(row)])
        chosen = product(row[chosen.index(lowest)], chosen)
    return chosen


def all_turns(table):
    made = [still_turn(len(table))]
    for row in table:
        longer = []
        for goal in goals(row):
            longer.extend([product(row[goal], chosen) for chosen in made])
        made = longer
    return made
