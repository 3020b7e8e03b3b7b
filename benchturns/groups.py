"""What a bench keeps: how many things there are, and the four groups."""

from benchturns.own import own_turns
from benchturns.tables import add_turn, table_without_turns

GROUP_COUNT = 4
THINGS_AT_FIRST = 3


class Group:
    def __init__(self, things):
        self.given = []
        self.table = table_without_turns(things)

    def give(self, turn):
        self.given.append(turn)
        add_turn(self.table, turn)


class Bench:
    def __init__(self):
        self.things = THINGS_AT_FIRST
        self.groups = []
        self.begin(THINGS_AT_FIRST)

    def begin(self, things):
        self.things = things
        self.groups = [Group(things) for number in range(GROUP_COUNT)]

    def empty(self, number):
        self.groups[number] = Group(self.things)

    # The table is the group's alone from now on.
    def put(self, number, table):
        group = Group(self.things)
        group.given = own_turns(table)
        group.table = table
        self.groups[number] = group
