"""What holds where a graph spreads by p to q, as the calls themselves tell it, and the document's corners."""

import itertools
import unittest

from tests.asking import circulant, laid, last, spreads_by, tell_each, tell_last
from tests.graphs import PARTS, PETERSEN, SIDES, TWELVE, all_sets, even_graphs

GRAPHS = even_graphs() + [TWELVE]


def some_of(found, most):
    """At most that many, from all over the list."""
    return found[::-(-len(found) // most)]


def some_sets(n, most):
    """Sets of n places: the empty one, all, and at most that many from all over."""
    return some_of(all_sets(n), most) + [[], list(range(n))]


def shares(rows):
    """Some p to q by which the graph spreads: the least ones, and greater ones."""
    calls = laid(rows)
    found = []
    for q in (1, 7, 100):
        p = last(*calls, ("least", q))
        found += [(p, q), ((p + q + 1) // 2, q), (q, q)]
    return sorted(set(found))


class WhatHolds(unittest.TestCase):
    @classmethod
    def setUpClass(cls):
        cls.found = [(rows, shares(rows)) for rows in GRAPHS]

    def test_they_spread(self):
        for rows, by in self.found:
            for p, q in by:
                self.assertEqual(last(*laid(rows), ("spreads", p, q)), 1)
                self.assertTrue(spreads_by(rows, p, q), rows)

    def test_off_of_between(self):
        for rows, by in self.found:
            n = len(rows)
            d = sum(rows[0])
            sets = some_sets(n, 9)
            pairs = some_of(list(itertools.product(sets, sets)), 60)
            told = tell_each(laid(rows), [("between", ones, others) for ones, others in pairs])
            for p, q in by:
                for (ones, others), (count, off) in zip(pairs, told):
                    a = len(ones)
                    b = len(others)
                    self.assertLessEqual(off * off * q * q, p * p * d * d * a * b * (n - a) * (n - b), (rows, ones, others))

    def test_off_of_between_is_reached(self):
        # All with all, a place and itself, by 1 to 4; sides that change about, one side and itself, by 1 to 1.
        off = tell_last(("begin", 5), ("whole", 3), ("between", [2], [2]))[1]
        self.assertEqual(off * off * 4 * 4, 12 * 12 * 1 * 4 * 1 * 4)
        off = tell_last(*laid(SIDES), ("between", [0, 1, 2], [0, 1, 2]))[1]
        self.assertEqual(off * off, 3 * 3 * 3 * 3 * 3 * 3)

    def test_staying_against_bound(self):
        for rows, by in self.found:
            n = len(rows)
            sets = some_sets(n, 5)
            for k in (0, 1, 2, 7, 12):
                stay = tell_each(laid(rows), [("staying", k, places) for places in sets])
                for p, q in some_of(by, 4):
                    bounds = tell_each(laid(rows), [("bound", k, p, q, places) for places in sets])
                    for places, walks, bound in zip(sets, stay, bounds):
                        self.assertEqual(bound[0], 1, (rows, p, q))
                        self.assertLessEqual(walks[0] * bound[2], bound[1], (rows, k, p, q, places))
                        self.assertEqual(walks[0], sum(walks[1:]))

    def test_staying_reaches_bound(self):
        # All with all, and with themselves: chance alone.
        for b in range(5):
            stay = tell_last(*laid([[3] * 4] * 4), ("staying", 5, list(range(b))))
            bound = tell_last(*laid([[3] * 4] * 4), ("bound", 5, 0, 1, list(range(b))))
            self.assertEqual(stay[0] * bound[2], bound[1])

    def test_uneven_tells_1(self):
        for rows, by in self.found:
            given = [(u, k, p, q) for u in sorted({0, len(rows) - 1}) for k in (0, 1, 2, 5, 12) for p, q in by]
            told = tell_each(laid(rows), [("uneven", *numbers) for numbers in given])
            self.assertEqual([part[0] for part in told], [1] * len(given), rows)
            self.assertEqual({len(part) for part in told}, {2})

    def test_uneven_alone_may_tell_1_where_it_does_not_spread(self):
        # A triangle and a place by itself: from the triangle little is off, though it spreads by q to q alone.
        told = tell_each(laid(PARTS), [("spreads", 99, 100), ("uneven", 0, 1, 99, 100), ("uneven", 3, 1, 99, 100)])
        self.assertEqual(told, [[0], [1, 16], [0, 48]])

    def test_lines_that_leave(self):
        for rows, by in self.found:
            n = len(rows)
            d = sum(rows[0])
            sets = some_sets(n, 40)
            told = tell_each(laid(rows), [("leaving", places) for places in sets])
            for p, q in by:
                for places, (count, size) in zip(sets, told):
                    self.assertEqual(size, len(places))
                    self.assertGreaterEqual(count * q * n, d * (q - p) * size * (n - size), (rows, places))
            if n > 1:
                count, size, number = tell_last(*laid(rows), ("thinnest",))
                places = [u for u in range(n) if number >> u & 1]
                self.assertEqual(tell_last(*laid(rows), ("leaving", places)), [count, size])
                for p, q in by:
                    self.assertGreaterEqual(count * q * n, d * (q - p) * size * (n - size), rows)

    def test_the_powers_graph(self):
        for rows, by in self.found:
            for k in (1, 2, 3, 4):
                powered = laid(rows) + [("power", k)]
                if last(*powered) == 0:
                    for p, q in by:
                        if q ** k <= 100:
                            self.assertEqual(last(*powered, ("spreads", p ** k, q ** k)), 1, (rows, k))
                            self.assertLessEqual(last(*powered, ("least", q ** k)), p ** k, (rows, k))

    def test_a_powers_lines_are_walks(self):
        for rows in GRAPHS[::4] + [PETERSEN]:
            for k in (2, 3, 4):
                if sum(rows[0]) ** k <= 12:
                    for u in range(len(rows)):
                        counts = tell_last(*laid(rows), ("led_from", u, k))[1:]
                        self.assertEqual(tell_last(*laid(rows), ("power", k), ("row", u)), [sum(counts)] + counts)

    def test_q_to_q(self):
        for rows in GRAPHS:
            for q in (1, 2, 50, 100):
                self.assertEqual(last(*laid(rows), ("spreads", q, q)), 1)
                self.assertEqual(tell_last(*laid(rows), ("bound", 1, q, q, []))[0], 1)


class HowCallsAgree(unittest.TestCase):
    def test_leaving_is_between_these_and_others(self):
        for rows in GRAPHS[::3]:
            n = len(rows)
            for places in some_sets(n, 6):
                others = [u for u in range(n) if u not in places]
                told = tell_each(laid(rows), [("between", places, others), ("between", others, places),
                                              ("leaving", places), ("leaving", others)])
                self.assertEqual([told[0][0], told[1][0], told[3][0]], [told[2][0]] * 3)

    def test_one_line_staying_is_between(self):
        for rows in GRAPHS[::3]:
            for places in some_sets(len(rows), 6):
                told = tell_each(laid(rows), [("staying", 1, places), ("between", places, places)])
                self.assertEqual(told[0][0], told[1][0])

    def test_walks_go_both_ways(self):
        for rows in GRAPHS[::5]:
            for k in (1, 5, 12):
                told = tell_each(laid(rows), [("led_from", u, k) for u in range(len(rows))])
                counts = [part[1:] for part in told]
                self.assertEqual(counts, [list(column) for column in zip(*counts)])


class Corners(unittest.TestCase):
    def corner(self, before, *pairs):
        """Each pair is a call and what it answers behind the calls before."""
        self.assertEqual(tell_each(before, [call for call, told in pairs]), [told for call, told in pairs])

    def test_one_place_with_lines_to_itself(self):
        self.corner([("begin", 1), ("line", 0, 0, 4)],
                    (("even",), [4]), (("row", 0), [4, 4]), (("least", 100), [0]), (("thinnest",), [-33]),
                    (("between", [0], [0]), [4, 0]), (("between", [], [0]), [0, 0]),
                    (("leaving", [0]), [0, 1]), (("leaving", []), [0, 0]),
                    (("staying", 2, [0]), [16, 16]), (("bound", 2, 0, 3, [0]), [1, 144, 9]),
                    (("led_from", 0, 2), [1, 16]), (("uneven", 0, 2, 0, 3), [1, 0]))

    def test_no_lines(self):
        self.corner([("begin", 3)],
                    (("even",), [-33]), (("row", 2), [0, 0, 0, 0]), (("least", 100), [-33]), (("thinnest",), [0, 1, 1]),
                    (("between", [0], [0, 1]), [0]), (("leaving", [1]), [0, 1]),
                    (("staying", 0, [0, 2]), [2, 1, 0, 1]), (("staying", 1, [0, 2]), [0, 0, 0, 0]),
                    (("bound", 0, 0, 1, []), [-33]), (("led_from", 1, 0), [3, 0, 1, 0]),
                    (("led_from", 1, 1), [3, 0, 0, 0]), (("uneven", 0, 0, 0, 1), [-33]))

    def test_two_places(self):
        self.corner([("begin", 2), ("line", 0, 1, 3)],
                    (("even",), [3]), (("row", 1), [3, 3, 0]), (("least", 100), [100]), (("thinnest",), [3, 1, 1]),
                    (("between", [0], [0]), [0, 3]), (("between", [0], [1]), [3, 3]),
                    (("between", [0, 1], [0, 1]), [6, 0]), (("leaving", [1]), [3, 1]),
                    (("staying", 3, [0, 1]), [54, 27, 27]), (("staying", 3, [0]), [0, 0, 0]),
                    (("bound", 1, 1, 2, [1]), [0, 9, 4]), (("led_from", 0, 3), [2, 0, 27]),
                    (("uneven", 0, 1, 1, 1), [1, 18]))

    def test_a_ring_of_even_length(self):
        self.corner([("begin", 4), ("ring", 1)],
                    (("even",), [2]), (("row", 3), [2, 1, 0, 1, 0]), (("least", 100), [100]), (("thinnest",), [2, 2, 3]),
                    (("between", [0, 2], [0, 2]), [0, 8]), (("between", [0, 2], [1, 3]), [4, 8]),
                    (("leaving", [0, 2]), [4, 2]), (("staying", 2, [0, 1]), [2, 1, 1, 0, 0]),
                    (("bound", 2, 99, 100, [0, 1]), [0, 4 * 2 * 398 * 398, 160000]),
                    (("led_from", 0, 2), [4, 2, 0, 2, 0]), (("uneven", 0, 2, 1, 1), [1, 64]))

    def test_the_same_with_lines_from_each_to_itself(self):
        self.corner(laid(circulant(4, [1, 1])),
                    (("even",), [3]), (("row", 0), [3, 1, 1, 0, 1]), (("least", 100), [34]), (("thinnest",), [2, 2, 3]),
                    (("between", [0, 2], [0, 2]), [2, 4]), (("between", [0, 1], [0, 1]), [4, 4]),
                    (("leaving", [0, 1]), [2, 2]), (("staying", 2, [0, 1]), [8, 4, 4, 0, 0]),
                    (("bound", 2, 1, 3, [0, 1]), [1, 9 * 2 * 64, 144]), (("led_from", 0, 2), [4, 3, 2, 2, 2]),
                    (("uneven", 0, 2, 1, 3), [1, 12]))

    def test_all_with_all(self):
        self.corner([("begin", 4), ("whole", 2)],
                    (("even",), [6]), (("row", 1), [6, 2, 0, 2, 2]), (("least", 100), [34]), (("thinnest",), [8, 2, 3]),
                    (("between", [0, 1], [1, 2]), [6, 0]), (("leaving", [0, 1, 2]), [6, 3]),
                    (("staying", 2, [1, 2, 3]), [48, 0, 16, 16, 16]), (("bound", 1, 1, 3, [0]), [1, 36, 12]),
                    (("led_from", 3, 2), [4, 8, 8, 8, 12]), (("uneven", 1, 1, 1, 3), [1, 48]))

    def test_two_parts_with_no_line_between(self):
        self.corner(laid(PARTS),
                    (("even",), [2]), (("row", 3), [2, 0, 0, 0, 2]), (("least", 100), [100]), (("thinnest",), [0, 1, 8]),
                    (("between", [0, 1, 2], [3]), [0, 6]), (("leaving", [3]), [0, 1]),
                    (("staying", 12, [3]), [4096, 0, 0, 0, 4096]), (("bound", 1, 1, 1, [3]), [1, 8, 4]),
                    (("led_from", 3, 12), [4, 0, 0, 0, 4096]), (("uneven", 3, 12, 1, 1), [1, 12 * 4096 * 4096]))

    def test_a_power_with_walks_there_and_back(self):
        self.corner([("begin", 4), ("cube",), ("power", 2)],
                    (("even",), [4]), (("row", 1), [4, 0, 2, 2, 0]), (("least", 100), [100]), (("thinnest",), [0, 2, 6]),
                    (("between", [0], [0]), [2, 4]), (("leaving", [0]), [2, 1]),
                    (("staying", 2, [0]), [4, 4, 0, 0, 0]), (("bound", 1, 1, 1, [0]), [1, 16, 4]),
                    (("led_from", 0, 1), [4, 2, 0, 0, 2]), (("uneven", 0, 1, 1, 1), [1, 64]))


if __name__ == "__main__":
    unittest.main()
