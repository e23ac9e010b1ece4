"""What the tests share: calls by name, graphs read back, and a second way to tell whether a graph spreads."""

import unittest

from spreadwalks.graph import answers

NUMBERS = {
    "begin": 0, "line": 1, "ring": 2, "whole": 3, "cube": 4, "power": 5,
    "degree": 6, "even": 7, "spreads": 8, "least": 9, "between": 10,
    "staying": 11, "bound": 12, "led_from": 13, "uneven": 14, "thinnest": 15,
    "leaving": 16, "row": 17,
}

LOW = -2147483648
HIGH = 2147483647


def flat(calls):
    """The calls, each a tuple of its name and what is given, as the one list that answers takes."""
    numbers = []
    for call in calls:
        numbers.append(NUMBERS[call[0]])
        for given in call[1:]:
            if isinstance(given, list):
                numbers.append(len(given))
                numbers.extend(given)
            else:
                numbers.append(given)
    return numbers


def parted(told):
    """The answers' list as one list for each call."""
    parts = []
    at = 0
    while at < len(told):
        size = told[at]
        part = told[at + 1:at + 1 + size]
        if size < 1 or len(part) != size:
            raise ValueError("answers that do not part: " + repr(told))
        parts.append(part)
        at += 1 + size
    return parts


def tell(*calls):
    """All numbers that are answered to each call, as one list for each."""
    if not 1 <= len(calls) <= 60:
        raise ValueError("a list holds 1 to 60 calls")
    parts = parted(answers(flat(calls)))
    if len(parts) != len(calls):
        raise ValueError("not one answer for each call: " + repr(parts))
    return parts


def ask(*calls):
    """The one number that is answered to each call."""
    parts = tell(*calls)
    if any(len(part) != 1 for part in parts):
        raise ValueError("not one number for each call: " + repr(parts))
    return [part[0] for part in parts]


def last(*calls):
    """The one number that the last of the calls answers."""
    return ask(*calls)[-1]


def tell_last(*calls):
    """All numbers that the last of the calls answers."""
    return tell(*calls)[-1]


def tell_each(before, asked):
    """All numbers that each call answers behind the calls before, which are laid anew for as many as have room."""
    room = 60 - len(before)
    told = []
    for start in range(0, len(asked), room):
        told.extend(tell(*before, *asked[start:start + room])[len(before):])
    return told


def lines_after(n, *calls):
    """How many lines there are between each two of n places, behind the calls, as line itself tells it."""
    rows = []
    for u in range(n):
        # One object for each row: to be told of a line is to take it away.
        taken = [("line", u, v, 0) for v in range(n)]
        rows.append([part[0] for part in tell(*calls, *taken)[len(calls):]])
    return rows


class Refusing(unittest.TestCase):
    def refuses(self, n, before, refused, number):
        """The call is answered by that number alone, and the graph is the same behind it."""
        self.assertEqual(tell_last(*before, refused), [number], refused)
        self.assertEqual(lines_after(n, *before, refused), lines_after(n, *before), refused)


def laid(rows):
    """The calls that lay a graph, told by its rows, line by line."""
    n = len(rows)
    calls = [("begin", n)]
    for u in range(n):
        calls.extend(("line", u, v, rows[u][v]) for v in range(u, n) if rows[u][v])
    return calls


def circulant(n, counts):
    """The rows of n places in a ring with counts[s] lines from each place to those s further and s back."""
    rows = [[0] * n for u in range(n)]
    for u in range(n):
        for step, count in enumerate(counts):
            rows[u][(u + step) % n] = count
            rows[u][(u - step) % n] = count
    return rows


def walked(rows, k):
    """How many walks of k lines lead from each place to each, counted by going along each of them."""
    n = len(rows)
    counts = [[0] * n for u in range(n)]
    for start in range(n):
        ends = [start]
        for step in range(k):
            ends = [v for u in ends for v in range(n) for side in range(rows[u][v])]
        for end in ends:
            counts[start][end] += 1
    return counts


def spreads_by(rows, p, q):
    """Whether an even graph spreads, from the definition: sums of squares on a basis of what is 0 together."""
    n = len(rows)
    d = sum(rows[0])
    basis = [[int(v == u) - int(v == n - 1) for v in range(n)] for u in range(n - 1)]
    moved = [[sum(rows[u][v] * x[v] for v in range(n)) for u in range(n)] for x in basis]
    form = []
    for i in range(n - 1):
        form.append([])
        for j in range(n - 1):
            stood = sum(a * b for a, b in zip(basis[i], basis[j]))
            stands = sum(a * b for a, b in zip(moved[i], moved[j]))
            form[i].append(p * p * d * d * stood - q * q * stands)
    return all(number >= 0 for number in principal_sums(form))


def principal_sums(matrix):
    """The sums of principal minors of each size (Faddeev and LeVerrier): none is below 0 just if the form is not."""
    size = len(matrix)
    sums = []
    held = [[0] * size for u in range(size)]
    factor = 1
    for k in range(1, size + 1):
        held = [[sum(matrix[u][w] * held[w][v] for w in range(size)) for v in range(size)] for u in range(size)]
        for u in range(size):
            held[u][u] += factor
        trace = sum(matrix[u][w] * held[w][u] for u in range(size) for w in range(size))
        factor = -trace // k
        sums.append(factor if k % 2 == 0 else -factor)
    return sums
