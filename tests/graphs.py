"""Graphs that several tests ask, each told by its rows: how many lines there are between each two places."""

import itertools

from tests.asking import HIGH, LOW, circulant, walked

# Outer ring, spokes, inner star: from each place three lines lead; d 3, the others 1 and -2.
PETERSEN = [[0] * 10 for place in range(10)]
for place in range(5):
    for one, other in ((place, (place + 1) % 5), (place, place + 5), (place + 5, (place + 2) % 5 + 5)):
        PETERSEN[one][other] = 1
        PETERSEN[other][one] = 1

# Three places on each side, each bound to all of the other side.
SIDES = [[int((u < 3) != (v < 3)) for v in range(6)] for u in range(6)]

# A triangle, and a place by itself with two lines to itself: two parts with no line between them.
PARTS = [[0, 1, 1, 0], [1, 0, 1, 0], [1, 1, 0, 0], [0, 0, 0, 2]]

# Two places alike, both bound to a third one: 6, then 4 and 0.
ALIKE = [[4, 0, 2], [0, 4, 2], [2, 2, 2]]

# Parts of different sizes; the places of the first ones alone are 0 together and stay so.
MORE_PARTS = (
    [[5, 1, 0], [1, 5, 0], [0, 0, 6]],
    [[5, 0, 0, 0], [0, 5, 0, 0], [0, 0, 2, 3], [0, 0, 3, 2]],
    [[1, 0, 0, 0, 1], [0, 0, 0, 1, 1], [0, 0, 2, 0, 0], [0, 1, 0, 1, 0], [1, 1, 0, 0, 0]],
    [[0, 2, 0, 0, 0], [2, 0, 0, 0, 0], [0, 0, 0, 1, 1], [0, 0, 1, 0, 1], [0, 0, 1, 1, 0]],
)

# All with all and three lines from each place to itself: twelve lines from each of ten places; 12, then 2.
TWELVE = [[3 if u == v else 1 for v in range(10)] for u in range(10)]

# Even, and not even, with lines to itself in both.
EVEN = [[1, 2, 0, 1], [2, 0, 2, 0], [0, 2, 1, 1], [1, 0, 1, 2]]
ODD = [[1, 2, 0, 1], [2, 0, 5, 0], [0, 5, 1, 1], [1, 0, 1, 2]]

# From some place more lines lead than from another, or none from all.
NOT_EVEN = (
    [[0]],
    [[0, 0], [0, 0]],
    [[1, 0], [0, 0]],
    [[2, 3], [3, 0]],
    [[0, 1, 0], [1, 0, 1], [0, 1, 0]],
    [[0, 0, 0], [0, 0, 2], [0, 2, 5]],
    [[0, 4, 0, 0], [4, 2, 1, 0], [0, 1, 0, 3], [0, 0, 3, 1]],
    [[0, 2, 2, 2], [2, 0, 0, 0], [2, 0, 0, 0], [2, 0, 0, 0]],
    [[0, 1, 1, 0, 0], [1, 0, 1, 0, 0], [1, 1, 0, 0, 0], [0, 0, 0, 0, 1], [0, 0, 0, 1, 0]],
    [[0, 1, 0, 0, 0, 0], [1, 0, 3, 0, 1, 0], [0, 3, 1, 0, 0, 0], [0, 0, 0, 0, 2, 0], [0, 1, 0, 2, 0, 4],
     [0, 0, 0, 0, 4, 0]],
    [[int(abs(u - v) == 1) for v in range(10)] for u in range(10)],
)


def even_graphs():
    """Even graphs of every size, laid by few enough calls."""
    found = [PETERSEN, SIDES, PARTS, ALIKE, walked(PETERSEN, 2)] + list(MORE_PARTS)
    for n in range(1, 11):
        for counts in itertools.product((0, 1, 2), repeat=min(n // 2 + 1, 3)):
            if any(counts):
                found.append(circulant(n, counts))
    # Sums of places exchanged in pairs or turned about: even, but the same from no two places.
    turns = ((1, 0, 3, 2, 4, 5), (0, 2, 1, 4, 3, 5), (5, 1, 3, 2, 4, 0))
    for times in itertools.product((0, 1, 3), repeat=3):
        rows = [[0] * 6 for u in range(6)]
        for turn, count in zip(turns, times):
            for u in range(6):
                rows[u][turn[u]] += count
        if any(times):
            found.append(rows)
    return found


def small_graphs():
    """Graphs of at most six places, even and others: few enough sets and walks to go through them all."""
    return [rows for rows in even_graphs()[::3] + list(NOT_EVEN) + [PARTS, ALIKE, SIDES] if len(rows) <= 6]


def is_even(rows):
    """Whether from each place the same number of lines lead, one at least."""
    degrees = {sum(row) for row in rows}
    return len(degrees) == 1 and degrees != {0}


def all_sets(n):
    """All sets of n places, as rising lists."""
    return [list(places) for size in range(n + 1) for places in itertools.combinations(range(n), size)]


def renumbered(rows, order):
    """The same graph with its places in another order."""
    return [[rows[u][v] for v in order] for u in order]


def wrong_rows(n):
    """Rows that are no places, not rising, or have a place twice; n is 2 at least."""
    every = list(range(n))
    return [
        [-1], [n], [n + 1], [LOW], [HIGH], [LOW, HIGH], [0, HIGH], [LOW, 0], [-1, 0], [0, n], every + [n], [-1] + every,
        [0, -1, 1], [0, n, 1], [1, 0], every[::-1], every[1:] + [0], every[:-2] + [n - 1, n - 2],
        [0, 0], [n - 1, n - 1], [0, 1, 1], [0, 0, 1], every + [n - 1], [0] + every,
        list(range(70)), [0] * 70, [n] * 70, [HIGH] * 70, [LOW] * 70, list(range(69, -1, -1)), list(range(-1, 69)),
    ]
