"""Promise 4: staying, bound, from (led_from), uneven."""

import itertools
import unittest
from math import comb

from tests.asking import HIGH, LOW, Refusing, circulant, laid, spreads_by, tell, tell_each, tell_last
from tests.graphs import ALIKE, EVEN, NOT_EVEN, ODD, PARTS, PETERSEN, SIDES
from tests.graphs import all_sets, even_graphs, is_even, small_graphs, wrong_rows
from tests.second_way import led_from_by, staying_by, uneven_by

WRONG_STEPS = (LOW, -12, -1, 13, 14, HIGH)
WRONG_SHARES = ((0, 0), (0, -1), (0, 101), (101, 101), (0, LOW), (0, HIGH), (-1, 1), (-1, 100), (2, 1), (101, 100), (51, 50),
                (LOW, 100), (HIGH, 100), (LOW, LOW), (HIGH, HIGH), (LOW, HIGH), (HIGH, LOW))
RIGHT_SHARES = ((0, 1), (1, 1), (0, 100), (100, 100), (99, 100), (50, 50))

# Ten places, twelve lines from each.
FULL = [("begin", 10), ("whole", 1)] + [("line", u, u, 3) for u in range(10)]

PATH = [[0, 1, 0], [1, 0, 1], [0, 1, 0]]


def on_ring(n, c, far, k):
    """How many walks of k lines lead from a place of a ring of n to one that far on: j steps on, the others back."""
    return c ** k * sum(comb(k, j) for j in range(k + 1) if (2 * j - k - far) % n == 0)


class Staying(Refusing):
    def test_by_hand(self):
        told = tell_each(laid(PATH), [("staying", k, places) for k, places in (
            (1, [0, 1, 2]), (2, [0, 1, 2]), (3, [0, 1, 2]), (2, [0, 1]), (1, [0, 2]), (1, [1]), (4, [1, 2]), (5, []))])
        self.assertEqual(told, [[4, 1, 2, 1], [6, 2, 2, 2], [8, 2, 4, 2], [2, 1, 1, 0], [0, 0, 0, 0], [0, 0, 0, 0],
                                [2, 0, 1, 1], [0, 0, 0, 0]])
        told = tell_each(laid(ODD), [("staying", k, places) for k, places in ((1, [0, 1]), (2, [0, 1]), (2, [0, 3]))])
        self.assertEqual(told, [[5, 3, 2, 0, 0], [13, 7, 6, 0, 0], [13, 5, 0, 0, 8]])

    def test_walks_of_no_line(self):
        for rows in (PATH, ODD, EVEN, PARTS, [[0]], [[3]], [[0, 0], [0, 0]]):
            for places in all_sets(len(rows)):
                inside = [int(u in places) for u in range(len(rows))]
                self.assertEqual(tell_last(*laid(rows), ("staying", 0, places)), [len(places)] + inside)

    def test_no_places(self):
        for k in range(13):
            self.assertEqual(tell_last(*laid(EVEN), ("staying", k, [])), [0] * 5)

    def test_one_place(self):
        for k in range(13):
            self.assertEqual(tell_last(("begin", 1), ("line", 0, 0, 3), ("staying", k, [0])), [3 ** k] * 2)
            self.assertEqual(tell_last(("begin", 2), ("line", 0, 0, 2), ("line", 0, 1, 9), ("staying", k, [0])),
                             [2 ** k, 2 ** k, 0])
            self.assertEqual(tell_last(("begin", 2), ("line", 0, 1, 9), ("staying", k, [1])), [0 ** k, 0, 0 ** k])

    def test_all_places(self):
        for k in (0, 1, 2, 11, 12):
            self.assertEqual(tell_last(*FULL, ("staying", k, list(range(10)))), [10 * 12 ** k] + [12 ** k] * 10)
            self.assertEqual(tell_last(*laid(PARTS), ("staying", k, [0, 1, 2, 3])), [4 * 2 ** k] + [2 ** k] * 4)

    def test_twelve_lines(self):
        self.assertEqual(tell_last(("begin", 5), ("whole", 3), ("staying", 12, [1, 2, 4])),
                         [3 * 6 ** 12, 0, 6 ** 12, 6 ** 12, 0, 6 ** 12])
        # From one place of two: across each time, three lines side by side.
        self.assertEqual(tell_last(("begin", 10), ("ring", 3), ("staying", 12, [0, 1])), [2 * 3 ** 12] + [3 ** 12] * 2 + [0] * 8)
        # Three in a row: the walks double with every two lines.
        self.assertEqual(tell_last(("begin", 10), ("ring", 3), ("staying", 12, [0, 1, 9])),
                         [3 * 2 ** 6 * 3 ** 12] + [2 ** 6 * 3 ** 12] * 2 + [0] * 7 + [2 ** 6 * 3 ** 12])
        # Five of ten that go to one another once and to themselves three times: seven lines from each.
        self.assertEqual(tell_last(*FULL, ("staying", 12, [0, 2, 4, 6, 8])), [5 * 7 ** 12] + [7 ** 12, 0] * 5)

    def test_walk_by_walk(self):
        for rows in small_graphs():
            most = max(max(sum(row) for row in rows), 1)
            for k in range(5):
                if len(rows) * most ** k <= 3000:
                    sets = all_sets(len(rows))[::1 + k]
                    told = tell_each(laid(rows), [("staying", k, places) for places in sets])
                    self.assertEqual(told, [staying_by(rows, places, k) for places in sets], (rows, k))

    def test_walk_by_walk_on_ten_places(self):
        for rows in (PETERSEN, circulant(10, [1, 1]), NOT_EVEN[-1]):
            for k in (1, 2, 4):
                for places in ([0], [0, 1, 5, 6], [2, 3, 4, 7, 9], list(range(10)), list(range(1, 10))):
                    self.assertEqual(tell_last(*laid(rows), ("staying", k, places)), staying_by(rows, places, k))

    def test_refusals(self):
        for rows in (EVEN, ODD):
            before = laid(rows)
            for k in WRONG_STEPS:
                for places in ([], [0], [0, 1, 2, 3], [4]):
                    self.refuses(4, before, ("staying", k, places), -22)
            for places in wrong_rows(4):
                for k in (-1, 0, 1, 12, 13):
                    self.refuses(4, before, ("staying", k, places), -22)

    def test_right_ones_at_the_edges(self):
        self.assertEqual(tell_last(*laid(PATH), ("staying", 12, [0, 1])), [2, 1, 1, 0])
        self.assertEqual(tell_last(*laid(PATH), ("staying", 0, [2])), [1, 0, 0, 1])
        for rows in NOT_EVEN:
            every = list(range(len(rows)))
            degrees = [sum(row) for row in rows]
            self.assertEqual(tell_last(*laid(rows), ("staying", 1, every)), [sum(degrees)] + degrees)


class Bound(Refusing):
    def test_by_hand(self):
        ring = [("begin", 5), ("ring", 1)]
        # 2 to the power of 2, times 2, times (200 and 243, together) to the power of 2; 500 to the power of 2.
        self.assertEqual(tell_last(*ring, ("bound", 2, 81, 100, [0, 1])), [1, 4 * 2 * 443 * 443, 250000])
        self.assertEqual(tell_last(*ring, ("bound", 2, 80, 100, [0, 1])), [0, 4 * 2 * 440 * 440, 250000])
        self.assertEqual(tell_last(*ring, ("bound", 1, 1, 2, [0, 2, 4])), [0, 2 * 3 * 8, 10])
        self.assertEqual(tell_last(*laid(PETERSEN), ("bound", 3, 2, 3, [9])), [1, 27 * 21 ** 3, 27000])
        self.assertEqual(tell_last(*laid(EVEN), ("bound", 1, 1, 1, [0, 1, 3])), [1, 4 * 3 * 4, 4])

    def test_no_lines_walked(self):
        for places in all_sets(5):
            self.assertEqual(tell_last(("begin", 5), ("ring", 1), ("bound", 0, 81, 100, places)), [1, len(places), 1])
            self.assertEqual(tell_last(("begin", 5), ("ring", 1), ("bound", 0, 0, 100, places)), [0, len(places), 1])

    def test_p_0(self):
        every = laid([[2] * 3 for u in range(3)])
        for k in (0, 1, 2, 12):
            for b in range(4):
                self.assertEqual(tell_last(*every, ("bound", k, 0, 7, list(range(b)))),
                                 [1, 6 ** k * b * (7 * b) ** k, 21 ** k])
                self.assertEqual(tell_last(("begin", 3), ("ring", 2), ("bound", k, 0, 7, list(range(b)))),
                                 [0, 4 ** k * b * (7 * b) ** k, 21 ** k])

    def test_no_places_and_all(self):
        for k in (0, 1, 5, 12):
            self.assertEqual(tell_last(*laid(EVEN), ("bound", k, 3, 4, [])), [1, 0, 16 ** k])
            self.assertEqual(tell_last(*laid(EVEN), ("bound", k, 3, 4, [0, 1, 2, 3])), [1, 4 ** k * 4 * 16 ** k, 16 ** k])

    def test_one_place(self):
        for p in (0, 5, 9):
            self.assertEqual(tell_last(("begin", 1), ("line", 0, 0, 3), ("bound", 2, p, 9, [0])), [1, 9 * 81, 81])
            self.assertEqual(tell_last(("begin", 1), ("line", 0, 0, 3), ("bound", 2, p, 9, [])), [1, 0, 81])

    def test_large_answers(self):
        self.assertEqual(tell_last(*FULL, ("bound", 12, 17, 100, [0, 2, 4, 6, 8])), [1, 12 ** 12 * 5 * 585 ** 12, 1000 ** 12])
        self.assertEqual(tell_last(*FULL, ("bound", 12, 16, 100, [1, 9])), [0, 12 ** 12 * 2 * 328 ** 12, 1000 ** 12])
        self.assertEqual(tell_last(*FULL, ("bound", 12, 100, 100, list(range(9)))),
                         [1, 12 ** 12 * 9 * 1000 ** 12, 1000 ** 12])

    def test_first_number_is_what_spreads_tells(self):
        for rows in even_graphs()[::2]:
            for p, q in ((0, 1), (1, 3), (1, 2), (2, 3), (81, 100), (1, 1)):
                told = tell(*laid(rows), ("spreads", p, q), ("bound", 3, p, q, [0]))[-2:]
                n = len(rows)
                d = sum(rows[0])
                self.assertEqual(told[0], [int(spreads_by(rows, p, q))])
                self.assertEqual(told[1], told[0] + [(d * (q + p * (n - 1))) ** 3, (n * q) ** 3])

    def test_wrong_numbers(self):
        for rows in (EVEN, ODD):
            before = laid(rows)
            for k in WRONG_STEPS:
                self.refuses(4, before, ("bound", k, 1, 2, [0]), -22)
            for p, q in WRONG_SHARES:
                self.refuses(4, before, ("bound", 1, p, q, [0]), -22)
            for places in wrong_rows(4):
                self.refuses(4, before, ("bound", 1, 1, 2, places), -22)
            self.refuses(4, before, ("bound", 13, 1, 0, [4]), -22)
            self.refuses(4, before, ("bound", LOW, HIGH, LOW, [HIGH]), -22)

    def test_right_ones_at_the_edges(self):
        for k in (0, 12):
            for p, q in RIGHT_SHARES:
                for places in ([], [0], [3], [0, 1, 2, 3]):
                    told = tell_last(*laid(EVEN), ("bound", k, p, q, places))
                    b = len(places)
                    self.assertEqual(told[1:], [4 ** k * b * (b * q + p * (4 - b)) ** k, (4 * q) ** k])
                    self.assertEqual(told[:1], [int(spreads_by(EVEN, p, q))])

    def test_not_even(self):
        for rows in NOT_EVEN:
            for k, p, q in ((0, 0, 1), (12, 100, 100), (3, 1, 2)):
                for places in ([], [0], list(range(len(rows)))):
                    self.refuses(len(rows), laid(rows), ("bound", k, p, q, places), -33)


class LedFrom(Refusing):
    def test_by_hand(self):
        told = tell_each(laid(PATH), [("led_from", u, k) for u, k in ((0, 1), (1, 1), (0, 2), (1, 2), (2, 3), (1, 12))])
        self.assertEqual(told, [[3, 0, 1, 0], [3, 1, 0, 1], [3, 1, 0, 1], [3, 0, 2, 0], [3, 0, 2, 0], [3, 0, 64, 0]])
        self.assertEqual(tell_last(*laid(ODD), ("led_from", 0, 2)), [4, 6, 2, 11, 3])

    def test_walks_of_no_line(self):
        for rows in (PATH, ODD, PARTS, PETERSEN, [[0]], [[0, 0], [0, 0]]):
            n = len(rows)
            for u in range(n):
                self.assertEqual(tell_last(*laid(rows), ("led_from", u, 0)), [n] + [int(u == v) for v in range(n)])

    def test_one_place(self):
        for k in range(13):
            self.assertEqual(tell_last(("begin", 1), ("line", 0, 0, 9), ("led_from", 0, k)), [1, 9 ** k])
            self.assertEqual(tell_last(("begin", 1), ("led_from", 0, k)), [1, 0 ** k])

    def test_all_with_all(self):
        for n, c in ((2, 3), (5, 3), (7, 2), (10, 1)):
            for k in (1, 2, 3, 11, 12):
                here = c ** k * ((n - 1) ** k + (n - 1) * (-1) ** k) // n
                there = c ** k * ((n - 1) ** k - (-1) ** k) // n
                for u in (0, n - 1):
                    self.assertEqual(tell_last(("begin", n), ("whole", c), ("led_from", u, k)),
                                     [n] + [here if v == u else there for v in range(n)])

    def test_rings(self):
        for n in range(3, 11):
            for k in (1, 2, 5, 12):
                for u in (0, 1, n - 1):
                    self.assertEqual(tell_last(("begin", n), ("ring", 3), ("led_from", u, k)),
                                     [n] + [on_ring(n, 3, v - u, k) for v in range(n)])

    def test_twelve_lines_from_each_of_ten(self):
        expected = [10] + [(12 ** 12 - 2 ** 12) // 10] * 10
        expected[4] = (12 ** 12 + 9 * 2 ** 12) // 10
        self.assertEqual(tell_last(*FULL, ("led_from", 3, 12)), expected)
        self.assertEqual(sum(expected[1:]), 12 ** 12)

    def test_walk_by_walk(self):
        for rows in small_graphs() + [PETERSEN, NOT_EVEN[-1]]:
            most = max(max(sum(row) for row in rows), 1)
            for k in range(5):
                if len(rows) * most ** k <= 3000:
                    asked = [("led_from", u, k) for u in range(len(rows))]
                    self.assertEqual(tell_each(laid(rows), asked), [led_from_by(rows, u, k) for u in range(len(rows))])

    def test_no_such_place(self):
        for n, rows in ((4, EVEN), (4, ODD), (1, [[2]])):
            for u in (LOW, -n, -1, n, n + 1, HIGH):
                for k in (LOW, -1, 0, 1, 12, 13, HIGH):
                    self.refuses(n, laid(rows), ("led_from", u, k), -2)

    def test_how_far_refused(self):
        for n, rows in ((4, EVEN), (4, ODD), (1, [[2]])):
            for u in (0, n - 1):
                for k in WRONG_STEPS:
                    self.refuses(n, laid(rows), ("led_from", u, k), -22)
                for k in (0, 12):
                    self.assertEqual(len(tell_last(*laid(rows), ("led_from", u, k))), 1 + n)


class Uneven(Refusing):
    def test_by_hand(self):
        ring = [("begin", 5), ("ring", 1)]
        # Walks of two lines: 2, 0, 1, 1, 0; times 5 less 4: 6, -4, 1, 1, -4.
        self.assertEqual(tell_last(*ring, ("uneven", 0, 2, 81, 100)), [1, 70])
        # 70 against 320 times the fourth power of p over q, which is to be 0.68390 at least.
        told = tell_each(ring, [("uneven", 3, 2, p, 100) for p in (0, 1, 68, 69, 100)])
        self.assertEqual(told, [[0, 70], [0, 70], [0, 70], [1, 70], [1, 70]])
        # One line: 0, 1, 0, 0, 1; times 5 less 2: 3, 3, -2, -2, -2; 30 against 80 times the square, 0.61237 at least.
        self.assertEqual(tell_last(*ring, ("uneven", 1, 1, 61, 100)), [0, 30])
        self.assertEqual(tell_last(*ring, ("uneven", 1, 1, 62, 100)), [1, 30])

    def test_just_at_the_bound(self):
        # All with all: each line walked takes them nearer by just n less 1.
        for n in (2, 3, 5, 10):
            for k in (1, 2, 12):
                told = tell_each([("begin", n), ("whole", 1)], [("uneven", n - 1, k, 7, 7 * (n - 1)),
                                                                ("uneven", 0, k, 6, 7 * (n - 1))])
                self.assertEqual(told, [[1, n * (n - 1)], [0, n * (n - 1)]])

    def test_no_line_walked(self):
        # Even p 0 to the power of 0 is 1.
        for rows in (EVEN, PARTS, PETERSEN, SIDES, [[1]], [[0, 9], [9, 0]]):
            n = len(rows)
            for p, q in ((0, 1), (0, 100), (1, 1), (1, 100), (100, 100)):
                self.assertEqual(tell_last(*laid(rows), ("uneven", n - 1, 0, p, q)), [1, n * (n - 1)])

    def test_p_0(self):
        for n, c in ((1, 9), (2, 6), (4, 3), (6, 2)):
            for k in (0, 1, 12):
                squares = 0 if k else n * (n - 1)
                self.assertEqual(tell_last(*laid([[c] * n for u in range(n)]), ("uneven", 0, k, 0, 100)), [1, squares])
        for k in (1, 2, 12):
            self.assertEqual(tell_last(("begin", 3), ("whole", 1), ("uneven", 2, k, 0, 1)), [0, 6])

    def test_large_answers(self):
        # 12 and else 2: off by nine times and nine times once 2 to the power of 12.
        told = tell_each(FULL, [("uneven", 4, 12, p, q) for p, q in ((17, 100), (16, 100), (16, 96), (15, 96), (100, 100))])
        squares = 90 * 4 ** 12
        self.assertEqual(told, [[1, squares], [0, squares], [1, squares], [0, squares], [1, squares]])
        # Two sides that change about: all walks of 12 lines end on one side.
        rows = circulant(10, [0, 3, 0, 3])
        counts = tell_last(*laid(rows), ("led_from", 0, 12))[1:]
        self.assertEqual((counts[1::2], sum(counts)), ([0] * 5, 12 ** 12))
        squares = sum((10 * count - 12 ** 12) ** 2 for count in counts)
        self.assertGreater(squares, 10 * 144 ** 12)
        self.assertEqual(tell_last(*laid(rows), ("uneven", 0, 12, 100, 100)), [1, squares])
        self.assertEqual(tell_last(*laid(rows), ("uneven", 0, 12, 50, 100)), [0, squares])
        # One place by itself with all lines to itself among ten such: as far off as may be.
        alone = [("begin", 10)] + [("line", u, u, 9) for u in range(10)]
        told = tell_each(alone, [("uneven", 9, 12, p, 100) for p in (99, 100)])
        self.assertEqual(told, [[0, 90 * 81 ** 12], [1, 90 * 81 ** 12]])

    def test_walk_by_walk(self):
        for rows in [rows for rows in small_graphs() if is_even(rows)] + [PETERSEN]:
            for k in range(5):
                if len(rows) * sum(rows[0]) ** k <= 3000:
                    given = [(u, k, p, q) for u in {0, len(rows) - 1} for p, q in
                             ((0, 1), (0, 9), (1, 5), (1, 3), (1, 2), (2, 3), (80, 100), (81, 100), (1, 1))]
                    told = tell_each(laid(rows), [("uneven", *numbers) for numbers in given])
                    self.assertEqual(told, [uneven_by(rows, *numbers) for numbers in given], rows)

    def test_the_very_p_from_which_it_is_told(self):
        for rows in (EVEN, ALIKE, circulant(5, [0, 1]), circulant(6, [1, 1])):
            for k in (1, 3):
                given = [(0, k, p, 100) for p in range(101)]
                told = tell_each(laid(rows), [("uneven", *numbers) for numbers in given])
                self.assertEqual(told, [uneven_by(rows, *numbers) for numbers in given], rows)

    def test_no_such_place(self):
        for n, rows in ((4, EVEN), (4, ODD), (1, [[0]])):
            for u in (LOW, -n, -1, n, n + 1, HIGH):
                for k, p, q in ((1, 1, 2), (13, 1, 2), (1, 2, 1), (-1, -1, 0), (LOW, LOW, LOW), (HIGH, HIGH, HIGH)):
                    self.refuses(n, laid(rows), ("uneven", u, k, p, q), -2)

    def test_wrong_numbers(self):
        for n, rows in ((4, EVEN), (4, ODD), (1, [[0]])):
            for u in (0, n - 1):
                for k in WRONG_STEPS:
                    self.refuses(n, laid(rows), ("uneven", u, k, 1, 2), -22)
                for p, q in WRONG_SHARES:
                    self.refuses(n, laid(rows), ("uneven", u, 1, p, q), -22)
                    self.refuses(n, laid(rows), ("uneven", u, 13, p, q), -22)

    def test_right_ones_at_the_edges(self):
        for u, k in itertools.product((0, 3), (0, 12)):
            for p, q in RIGHT_SHARES:
                told = tell_last(*laid(EVEN), ("uneven", u, k, p, q))
                counts = tell_last(*laid(EVEN), ("led_from", u, k))[1:]
                squares = sum((4 * count - 4 ** k) ** 2 for count in counts)
                self.assertEqual(told, [int(squares * q ** (2 * k) <= (4 * p) ** (2 * k) * 12), squares])

    def test_not_even(self):
        for rows in NOT_EVEN:
            for k, p, q in ((0, 0, 1), (12, 100, 100), (3, 1, 2)):
                for u in (0, len(rows) - 1):
                    self.refuses(len(rows), laid(rows), ("uneven", u, k, p, q), -33)


if __name__ == "__main__":
    unittest.main()
