"""A slow bench that answers all calls from lists of all turns, to hold the program's answers against."""

import functools

from tests import plain

MOST = 1000


@functools.lru_cache(maxsize=None)
def turns_of(things, given):
    return tuple(plain.listing(things, given))


@functools.lru_cache(maxsize=None)
def own_of(things, turns):
    return tuple(plain.plain_own(things, list(turns)))


def words_of(things, given):
    """Of each turn its first word: of one length after another, the least by its letters."""
    found = {tuple(range(things)): ()}
    last = dict(found)
    while last:
        fresh = {}
        for x, word in last.items():
            for letter, y in enumerate(given):
                made = plain.then(x, y)
                if made not in found:
                    fresh[made] = min(fresh.get(made, (len(given),)), word + (letter,))
        found.update(fresh)
        last = fresh
    return found


class PlainBench:
    groups_stand = {"blocks": 1, "nth": 1, "within": 2, "derived": 2, "normal": 3, "meet": 3, "join": 3, "new": 0, "power": 0}

    def __init__(self):
        self.new(3)

    def new(self, things):
        self.things = things
        self.given = [(), (), (), ()]
        return [0]

    def refusal(self, name, numbers, rows):
        if name == "new" and not 1 <= numbers[0] <= 9:
            return -2
        if any(number > 3 for number in numbers[:self.groups_stand.get(name, 1)]):
            return -2
        if name == "blocks" and max(numbers[1:]) >= self.things:
            return -2
        if any(set(row) != set(range(self.things)) or len(row) != self.things for row in rows):
            return -1
        return None

    def answer(self, call):
        numbers = [part for part in call[1:] if not isinstance(part, list)]
        rows = [tuple(part) for part in call[1:] if isinstance(part, list)]
        refusal = self.refusal(call[0], numbers, rows)
        if refusal is not None:
            return [refusal]
        return getattr(self, "class_count" if call[0] == "class" else call[0])(*numbers, *rows)

    def turns(self, g):
        return list(turns_of(self.things, self.given[g]))

    def put(self, k, turns):
        self.given[k] = own_of(self.things, tuple(turns))
        return [len(turns), len(self.given[k])]

    def give(self, g, x):
        if len(self.given[g]) >= 6:
            return [-3]
        self.given[g] = self.given[g] + (x,)
        return [len(self.given[g])]

    def clear(self, g):
        self.given[g] = ()
        return [0]

    def gens(self, g):
        return plain.rows(self.given[g])

    def order(self, g):
        return [len(self.turns(g))]

    def chain(self, g):
        return plain.plain_chain(self.things, self.turns(g))

    def orbits(self, g):
        return plain.plain_orbits(self.things, self.turns(g))

    def blocks(self, g, a, b):
        return plain.plain_blocks(self.things, self.turns(g), a, b)

    def kind(self, g):
        return plain.plain_kind(self.things, self.turns(g))

    def has(self, g, x):
        return [int(x in self.turns(g))]

    def nth(self, g, k):
        turns = self.turns(g)
        return list(turns[k]) if k < len(turns) else [-4]

    def place(self, g, x):
        turns = self.turns(g)
        return [turns.index(x)] if x in turns else [-4]

    def coset(self, g, x):
        return plain.plain_coset(self.turns(g), x)

    def within(self, g, h):
        return plain.plain_within(self.turns(g), self.turns(h))

    def word(self, g, x):
        turns = self.turns(g)
        if x not in turns:
            return [-4]
        if len(turns) > MOST:
            return [-8]
        word = words_of(self.things, self.given[g])[x]
        return [len(word)] + list(word)

    def class_count(self, g, x):
        count = plain.plain_class(self.turns(g), x)
        return [-8 if count > MOST else count]

    def normal(self, g, h, k):
        return self.put(k, plain.plain_normal(self.things, self.turns(g), self.turns(h)))

    def derived(self, g, k):
        return self.put(k, plain.plain_derived(self.things, self.turns(g)))

    def meet(self, g, h, k):
        turns = self.turns(g)
        return [-8] if len(turns) > MOST else self.put(k, plain.plain_meet(self.things, turns, self.turns(h)))

    def join(self, g, h, k):
        return self.put(k, plain.plain_join(self.things, self.turns(g), self.turns(h)))

    def mul(self, x, y):
        return list(plain.then(x, y))

    def power(self, k, x):
        return plain.plain_power(k % 2520, x)

    def inverse(self, x):
        return list(plain.undone(x))

    def cycles(self, x):
        return plain.plain_cycles(x)
