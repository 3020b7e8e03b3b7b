"""Groups to ask of: a name, how many things, the turns given, and how many turns they make."""

import random


def around(things, *cycles):
    turn = list(range(things))
    for cycle in cycles:
        for place, goal in zip(cycle, cycle[1:] + cycle[:1]):
            turn[place] = goal
    return turn


KNOWN = (
    ("one thing, none given", 1, [], 1),
    ("one thing, still", 1, [[0]], 1),
    ("two things, none given", 2, [], 1),
    ("two things swapped", 2, [[1, 0]], 2),
    ("three things around", 3, [[1, 2, 0]], 3),
    ("all turns of three", 3, [[1, 2, 0], [1, 0, 2]], 6),
    ("two swaps apart", 4, [[1, 0, 2, 3], [0, 1, 3, 2]], 4),
    ("two swaps at once", 4, [[1, 0, 3, 2]], 2),
    ("the four group", 4, [[1, 0, 3, 2], [2, 3, 0, 1]], 4),
    ("a square", 4, [[1, 2, 3, 0], [0, 3, 2, 1]], 8),
    ("the even turns of four", 4, [[1, 2, 0, 3], [0, 2, 3, 1]], 12),
    ("a pentagon", 5, [[1, 2, 3, 4, 0], [0, 4, 3, 2, 1]], 10),
    ("twenty turns of five", 5, [[1, 2, 3, 4, 0], [0, 2, 4, 1, 3]], 20),
    ("the even turns of five", 5, [[1, 2, 3, 4, 0], [1, 2, 0, 3, 4]], 60),
    ("three and two apart", 5, [[1, 2, 0, 4, 3]], 6),
    ("a hexagon", 6, [[1, 2, 3, 4, 5, 0], [0, 5, 4, 3, 2, 1]], 12),
    ("three pairs", 6, [[1, 0, 2, 3, 4, 5], [2, 3, 4, 5, 0, 1], [2, 3, 0, 1, 4, 5]], 48),
    ("sixty turns of six", 6, [[1, 2, 3, 4, 0, 5], [5, 4, 2, 3, 1, 0]], 60),
    ("all turns of six", 6, [[1, 2, 3, 4, 5, 0], [1, 0, 2, 3, 4, 5]], 720),
    ("lines of seven points", 7, [[1, 2, 3, 4, 5, 6, 0], around(7, [1, 2], [3, 6])], 168),
    ("a row of three and four", 7, [around(7, [0, 1, 2]), around(7, [3, 4, 5, 6])], 12),
    ("corners of a cube", 8, [around(8, [0, 1, 2, 3], [4, 5, 6, 7]), around(8, [0, 1, 5, 4], [3, 2, 6, 7])], 24),
    ("nine things around", 9, [[1, 2, 3, 4, 5, 6, 7, 8, 0]], 9),
    ("rows and columns", 9, [around(9, [0, 1, 2], [3, 4, 5], [6, 7, 8]), around(9, [0, 3, 6], [1, 4, 7], [2, 5, 8])], 9),
    ("three threes", 9, [around(9, [0, 1, 2]), around(9, [0, 1]), around(9, [0, 3, 6], [1, 4, 7], [2, 5, 8]),
                         around(9, [0, 3], [1, 4], [2, 5])], 1296),
    ("a swap far behind", 9, [around(9, [7, 8])], 2),
)


def drawn(seed, count, most_things):
    """Groups drawn by a fixed seed, so that they are the same every time."""
    source = random.Random(seed)
    found = []
    for number in range(count):
        things = source.randint(1, most_things)
        given = []
        for which in range(source.randint(0, 6)):
            turn = list(range(things))
            moved = source.sample(turn, source.randint(0, things))
            if source.random() < 0.6:
                moved = moved[:3]
            given.append(around(things, moved) if len(moved) > 1 else turn)
        found.append((f"drawn {number}", things, given))
    return found
