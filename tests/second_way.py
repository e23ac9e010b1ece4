"""What sets and walks are to answer, found line by line and walk by walk, straight from the document's words."""

import itertools
from fractions import Fraction

from tests.graphs import is_even


def each_line(rows):
    """Every line by itself, as its two ends; lines side by side stand there side by side."""
    n = len(rows)
    return [(u, v) for u in range(n) for v in range(u, n) for side in range(rows[u][v])]


def each_walk(rows, k):
    """Every walk of k lines, as the places that it goes through."""
    found = [(u,) for u in range(len(rows))]
    for step in range(k):
        found = [walk + (v,) for walk in found for v in range(len(rows)) for side in range(rows[walk[-1]][v])]
    return found


def between_by(rows, ones, others):
    """What between answers."""
    count = 0
    for u, v in each_line(rows):
        # A line from a place to itself has one end.
        for one, other in {(u, v), (v, u)}:
            if one in ones and other in others:
                count += 1
    if not is_even(rows):
        return [count]
    return [count, abs(len(rows) * count - sum(rows[0]) * len(ones) * len(others))]


def leaving_by(rows, places):
    """What leaving answers."""
    return [sum(1 for u, v in each_line(rows) if (u in places) != (v in places)), len(places)]


def thinnest_by(rows):
    """What thinnest answers, where there are two places at least."""
    n = len(rows)
    found = []
    for size in range(1, n // 2 + 1):
        for places in itertools.combinations(range(n), size):
            count = leaving_by(rows, places)[0]
            found.append((Fraction(count, size), sum(2 ** u for u in places), count, size))
    thin = min(found)
    return [thin[2], thin[3], thin[1]]


def staying_by(rows, places, k):
    """What staying answers."""
    begun = [walk[0] for walk in each_walk(rows, k) if all(u in places for u in walk)]
    return [len(begun)] + [begun.count(u) for u in range(len(rows))]


def led_from_by(rows, u, k):
    """What led_from answers."""
    ends = [walk[-1] for walk in each_walk(rows, k) if walk[0] == u]
    return [len(rows)] + [ends.count(v) for v in range(len(rows))]


def uneven_by(rows, u, k, p, q):
    """What uneven answers, where the graph is even: how far the chances are off, told as fractions."""
    n = len(rows)
    all_walks = sum(rows[0]) ** k
    off = [Fraction(count, all_walks) - Fraction(1, n) for count in led_from_by(rows, u, k)[1:]]
    squares = sum(part * part for part in off)
    return [int(squares <= Fraction(p, q) ** (2 * k) * Fraction(n - 1, n)), squares * (n * all_walks) ** 2]
