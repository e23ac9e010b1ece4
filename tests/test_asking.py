"""Promise 2: degree, row, even, spreads, least."""

import itertools
import unittest

from tests.asking import HIGH, LOW, Refusing, ask, circulant, laid, last, lines_after, spreads_by, tell, tell_each
from tests.asking import tell_last
from tests.graphs import ALIKE, MORE_PARTS, NOT_EVEN, PARTS, PETERSEN, SIDES, TWELVE, even_graphs, renumbered

def spreads(calls, p, q):
    return last(*calls, ("spreads", p, q))


def least_by_asking(calls, q):
    """The least p of all from 0 to q that spreads is answered 1 to; fails if a greater one is answered 0."""
    told = []
    room = 60 - len(calls)
    for start in range(0, q + 1, room):
        asked = [("spreads", p, q) for p in range(start, min(start + room, q + 1))]
        told.extend(ask(*calls, *asked)[len(calls):])
    least = told.index(1)
    if told != [0] * least + [1] * (q + 1 - least):
        raise AssertionError(told)
    return least


class Degree(unittest.TestCase):
    def test_each_place(self):
        before = [("begin", 4), ("line", 0, 1, 4), ("line", 1, 1, 2), ("line", 1, 2, 6)]
        asked = [("degree", u) for u in range(4)]
        self.assertEqual(ask(*before, *asked)[4:], [4, 12, 6, 0])

    def test_built_graphs(self):
        self.assertEqual(last(("begin", 7), ("ring", 3), ("degree", 6)), 6)
        self.assertEqual(last(("begin", 7), ("whole", 2), ("degree", 0)), 12)
        self.assertEqual(last(("begin", 8), ("cube",), ("degree", 7)), 3)
        self.assertEqual(last(("begin", 5), ("ring", 1), ("power", 3), ("degree", 4)), 8)

    def test_no_such_place(self):
        for n in (1, 3, 10):
            before = [("begin", n), ("line", 0, 0, 2)]
            for u in (LOW, -1, n, n + 1, HIGH):
                self.assertEqual(last(*before, ("degree", u)), -2)
                self.assertEqual(lines_after(n, *before, ("degree", u)), lines_after(n, *before))


class Row(Refusing):
    def test_by_hand(self):
        before = [("begin", 4), ("line", 0, 1, 4), ("line", 1, 1, 2), ("line", 1, 2, 6)]
        told = tell(*before, *[("row", u) for u in range(4)])[4:]
        self.assertEqual(told, [[4, 0, 4, 0, 0], [12, 4, 2, 6, 0], [6, 0, 6, 0, 0], [0, 0, 0, 0, 0]])

    def test_built_graphs(self):
        self.assertEqual(tell_last(("begin", 5), ("ring", 3), ("row", 4)), [6, 3, 0, 0, 3, 0])
        self.assertEqual(tell_last(("begin", 3), ("whole", 2), ("row", 1)), [4, 2, 0, 2])
        self.assertEqual(tell_last(("begin", 8), ("cube",), ("row", 5)), [3, 0, 1, 0, 0, 1, 0, 0, 1])
        self.assertEqual(tell_last(("begin", 4), ("cube",), ("power", 2), ("row", 0)), [4, 2, 0, 0, 2])
        # A power may leave more than nine lines between two.
        self.assertEqual(tell_last(*laid([[0, 3, 1], [3, 0, 0], [1, 0, 0]]), ("power", 2), ("row", 0)), [10, 10, 0, 0])

    def test_no_lines_and_one_place(self):
        for n in range(1, 11):
            self.assertEqual(tell_last(("begin", n), ("row", n - 1)), [0] * (n + 1))
        self.assertEqual(tell_last(("begin", 1), ("line", 0, 0, 7), ("row", 0)), [7, 7])

    def test_each_place_of_many_graphs(self):
        for rows in even_graphs() + list(NOT_EVEN):
            told = tell_each(laid(rows), [("row", u) for u in range(len(rows))])
            self.assertEqual(told, [[sum(counts)] + counts for counts in rows])

    def test_no_such_place(self):
        for n in (1, 3, 10):
            before = [("begin", n), ("line", 0, 0, 2), ("line", 0, n - 1, 3)]
            for u in (LOW, -n, -1, n, n + 1, HIGH):
                self.refuses(n, before, ("row", u), -2)
            for u in (0, n - 1):
                self.assertEqual(len(tell_last(*before, ("row", u))), n + 1)


class Even(unittest.TestCase):
    def test_built_graphs(self):
        for n in range(3, 11):
            for c in (1, 2, 3):
                self.assertEqual(last(("begin", n), ("ring", c), ("even",)), 2 * c)
        self.assertEqual(last(("begin", 10), ("whole", 1), ("even",)), 9)
        self.assertEqual([last(("begin", n), ("cube",), ("even",)) for n in (2, 4, 8)], [1, 2, 3])
        self.assertEqual(last(*laid(PETERSEN), ("even",)), 3)
        self.assertEqual(last(*laid(PARTS), ("even",)), 2)

    def test_no_lines(self):
        for n in range(1, 11):
            self.assertEqual(last(("begin", n), ("even",)), -33)

    def test_one_place(self):
        self.assertEqual(ask(("begin", 1), ("line", 0, 0, 1), ("even",), ("line", 0, 0, 9), ("even",))[2:], [1, 1, 9])

    def test_a_line_to_itself_counts_once(self):
        before = [("begin", 2), ("line", 0, 0, 2), ("line", 1, 1, 1)]
        self.assertEqual(ask(*before, ("even",), ("line", 1, 1, 2), ("even",))[3:], [-33, 1, 2])

    def test_not_even_at_whichever_place(self):
        for n in (2, 3, 10):
            for u in range(n):
                before = [("begin", n), ("line", u, u, 1)]
                self.assertEqual(last(*before, ("even",)), -33)
                self.assertEqual(lines_after(n, *before, ("even",)), lines_after(n, *before))

    def test_not_even_once_a_line_is_changed(self):
        before = [("begin", 5), ("ring", 2)]
        for c in (0, 1, 3):
            self.assertEqual(ask(*before, ("even",), ("line", 0, 1, c), ("even",))[2:], [4, 2, -33])


class SpreadsRefusals(unittest.TestCase):
    def test_q_at_the_edges(self):
        before = [("begin", 3), ("ring", 1)]
        self.assertEqual([spreads(before, 0, q) for q in (LOW, -1, 0, 101, HIGH)], [-22] * 5)
        self.assertEqual([spreads(before, q, q) for q in (LOW, -1, 0, 1, 100, 101, HIGH)],
                         [-22, -22, -22, 1, 1, -22, -22])

    def test_p_at_the_edges(self):
        before = [("begin", 3), ("ring", 1)]
        for q in (1, 2, 99, 100):
            asked = [LOW, -q, -1, 0, q, q + 1, 101, HIGH]
            self.assertEqual([spreads(before, p, q) for p in asked], [-22, -22, -22, 0, 1, -22, -22, -22])

    def test_not_even(self):
        for before in ([("begin", 1)], [("begin", 5)], [("begin", 2), ("line", 0, 0, 1)],
                       [("begin", 3), ("line", 0, 1, 2)]):
            for p, q in ((0, 1), (1, 1), (0, 100), (100, 100), (50, 100)):
                self.assertEqual(spreads(before, p, q), -33)

    def test_the_first_named_refusal(self):
        for p, q in ((0, 0), (0, 101), (-1, 1), (2, 1), (LOW, HIGH), (HIGH, LOW)):
            self.assertEqual(spreads([("begin", 2), ("line", 0, 0, 1)], p, q), -22)

    def test_asking_changes_nothing(self):
        for before in (laid(PARTS), [("begin", 4), ("line", 0, 1, 2)]):
            for p, q in ((0, 1), (1, 1), (1, 2), (2, 1), (0, 0)):
                self.assertEqual(lines_after(4, *before, ("spreads", p, q)), lines_after(4, *before))


class SpreadsByHand(unittest.TestCase):
    """The least p to q is q times the largest of all numbers other than d, signs off, over d, rounded up."""

    def leasts(self, calls, expected):
        for q, p in expected.items():
            self.assertEqual(least_by_asking(calls, q), p, (calls, q))

    def test_one_place_with_lines_to_itself(self):
        for c in (1, 2, 9):
            self.leasts([("begin", 1), ("line", 0, 0, c)], {1: 0, 2: 0, 100: 0})

    def test_two_places(self):
        for c in (1, 9):
            self.leasts([("begin", 2), ("line", 0, 1, c)], {1: 1, 3: 3, 100: 100})
        self.leasts([("begin", 2), ("line", 0, 0, 4), ("line", 1, 1, 4)], {1: 1, 100: 100})
        # 2 across and 1 to itself: 3 and -1; the other way round 3 and 1.
        self.leasts([("begin", 2), ("line", 0, 1, 2), ("line", 0, 0, 1), ("line", 1, 1, 1)], {3: 1, 99: 33, 100: 34})
        self.leasts([("begin", 2), ("line", 0, 1, 1), ("line", 0, 0, 2), ("line", 1, 1, 2)], {3: 1, 99: 33, 100: 34})

    def test_rings_of_even_length_change_sides(self):
        for n in (4, 6, 8, 10):
            for c in (1, 3):
                self.leasts([("begin", n), ("ring", c)], {1: 1, 7: 7, 100: 100})

    def test_rings_of_odd_length(self):
        # Half a turn over n: its cosine is 0.5, 0.80901, 0.90096, 0.93969.
        for n, expected in ((3, {1: 1, 2: 1, 99: 50, 100: 50}), (5, {5: 5, 100: 81}), (7, {10: 10, 100: 91}),
                            (9, {100: 94})):
            for c in (1, 2, 3):
                self.leasts([("begin", n), ("ring", c)], expected)

    def test_rings_of_even_length_with_lines_to_itself(self):
        # One and twice the cosine of a turn over n, over 3: 1/3, 2/3, 0.80473, 0.87267.
        for n, expected in ((4, {3: 1, 99: 33, 100: 34}), (6, {3: 2, 99: 66, 100: 67}), (8, {100: 81}), (10, {100: 88})):
            self.leasts(laid(circulant(n, [1, 1])), expected)

    def test_rings_of_odd_length_with_lines_to_itself(self):
        # 3: all with all; 5: (1 and 0.61803) over 3; 7: (1 and 1.24697) over 3.
        self.leasts(laid(circulant(3, [1, 1])), {1: 0, 100: 0})
        self.leasts(laid(circulant(5, [1, 1])), {100: 54})
        self.leasts(laid(circulant(7, [1, 1])), {100: 75})

    def test_all_with_all(self):
        for n in range(2, 11):
            self.leasts([("begin", n), ("whole", 1)], {n - 1: 1, 100: -(-100 // (n - 1))})
        self.leasts([("begin", 5), ("whole", 3)], {4: 1, 100: 25})

    def test_all_with_all_and_with_itself(self):
        for n, c in ((2, 6), (4, 3), (5, 1), (6, 2)):
            calls = [("begin", n)] + [("line", u, v, c) for u in range(n) for v in range(u + 1)]
            self.leasts(calls, {1: 0, 100: 0})
        calls = [("begin", 10), ("whole", 1)] + [("line", u, u, 1) for u in range(10)]
        self.assertEqual(spreads(calls, 0, 1), 1)
        self.assertEqual(spreads(calls[:-1] + [("line", 8, 9, 0), ("line", 8, 8, 2), ("line", 9, 9, 2)], 0, 1), 0)

    def test_two_parts_with_no_line_between(self):
        self.leasts(laid(PARTS), {1: 1, 100: 100})
        self.leasts(laid([[0, 9, 0, 0], [9, 0, 0, 0], [0, 0, 0, 9], [0, 0, 9, 0]]), {1: 1, 100: 100})
        self.leasts(laid([[3, 0, 0], [0, 3, 0], [0, 0, 3]]), {1: 1, 100: 100})

        for rows in MORE_PARTS:
            self.leasts(laid(rows), {1: 1, 6: 6, 100: 100})

    def test_however_the_places_are_numbered(self):
        for rows, expected in ((ALIKE, {3: 2, 99: 66, 100: 67}), (circulant(4, [1, 1]), {3: 1, 100: 34}),
                               (PARTS, {1: 1, 6: 6}), (MORE_PARTS[0], {1: 1, 6: 6}), (MORE_PARTS[1], {1: 1, 6: 6}),
                               (MORE_PARTS[2], {1: 1, 6: 6}), (MORE_PARTS[3], {1: 1, 6: 6})):
            for order in itertools.permutations(range(len(rows))):
                self.leasts(laid(renumbered(rows, order)), expected)

    def test_cubes_change_sides(self):
        for n in (2, 4, 8):
            self.leasts([("begin", n), ("cube",)], {1: 1, 100: 100})
        # With a line to itself each: 4, 2, 0, -2.
        self.leasts([("begin", 8), ("cube",)] + [("line", u, u, 1) for u in range(8)], {2: 1, 99: 50, 100: 50})

    def test_others(self):
        self.leasts(laid(PETERSEN), {3: 2, 99: 66, 100: 67})
        self.leasts(laid(SIDES), {1: 1, 100: 100})

    def test_powers_with_walks_there_and_back(self):
        # The square of 0.80901 is 0.65450; its third power 0.52950.
        self.leasts([("begin", 5), ("ring", 1), ("power", 2)], {100: 66})
        self.leasts([("begin", 5), ("ring", 1), ("power", 3)], {100: 53})
        self.leasts(laid(PETERSEN) + [("power", 2)], {9: 4, 99: 44, 100: 45})
        self.leasts([("begin", 4), ("cube",), ("power", 2)], {100: 100})
        self.leasts([("begin", 4), ("whole", 1), ("power", 2)], {9: 1, 99: 11, 100: 12})


class SpreadsAnotherWay(unittest.TestCase):
    def test_by_the_definition(self):
        pairs = [(0, 1), (1, 1), (1, 2), (1, 3), (2, 3), (3, 4), (100, 100), (0, 100)]
        pairs += [(p, 100) for p in (12, 34, 50, 61, 66, 80, 81, 90, 95, 99)]
        for rows in even_graphs():
            calls = laid(rows)
            told = ask(*calls, *[("spreads", p, q) for p, q in pairs])
            expected = [0] * len(calls) + [int(spreads_by(rows, p, q)) for p, q in pairs]
            self.assertEqual(told, expected, rows)

    def test_q_to_q_always(self):
        for rows in even_graphs():
            calls = laid(rows)
            self.assertEqual(ask(*calls, ("spreads", 1, 1), ("spreads", 97, 97))[-2:], [1, 1], rows)

    def test_a_power_spreads_by_powers(self):
        for rows in even_graphs():
            calls = laid(rows)
            for k, q in ((2, 10), (2, 7), (3, 4), (4, 3)):
                powered = calls + [("power", k)]
                if last(*powered) == 0:
                    p = least_by_asking(calls, q)
                    self.assertEqual(spreads(powered, p ** k, q ** k), 1, rows)
                    self.assertEqual(p > 0 and spreads(powered, (p - 1) ** k, q ** k), 0, rows)

    def test_all_small_numbers_that_are_0_together(self):
        for rows, p, q in ((circulant(4, [1, 1]), 1, 3), (circulant(4, [0, 1, 1]), 1, 3), (PARTS, 1, 1),
                           (circulant(3, [0, 2]), 1, 2), ([[1, 2], [2, 1]], 1, 3)):
            self.assertEqual(spreads(laid(rows), p, q), 1)
            self.assertEqual(self.worst(rows), (p, q))
            self.assertEqual(spreads(laid(rows), 100 * p // q - 1, 100), 0)

    def worst(self, rows):
        """p and q of those told above, such that some numbers reach p p d d to q q and none goes beyond it."""
        n = len(rows)
        d = sum(rows[0])
        reached = []
        for x in itertools.product(range(-3, 4), repeat=n):
            if sum(x) == 0 and any(x):
                moved = [sum(rows[u][v] * x[v] for v in range(n)) for u in range(n)]
                reached.append((sum(a * a for a in moved), sum(a * a for a in x) * d * d))
        return [(p, q) for p, q in ((1, 3), (1, 2), (1, 1)) if all(a * q * q <= b * p * p for a, b in reached)][0]


class Least(Refusing):
    def leasts(self, calls, expected):
        told = ask(*calls, *[("least", q) for q in expected])[len(calls):]
        self.assertEqual(told, list(expected.values()), calls)

    def test_by_hand(self):
        self.leasts([("begin", 1), ("line", 0, 0, 5)], {1: 0, 2: 0, 100: 0})
        self.leasts([("begin", 2), ("line", 0, 1, 9)], {1: 1, 3: 3, 100: 100})
        self.leasts([("begin", 2), ("line", 0, 1, 2), ("line", 0, 0, 1), ("line", 1, 1, 1)], {1: 1, 3: 1, 99: 33, 100: 34})
        self.leasts([("begin", 3), ("ring", 2)], {1: 1, 2: 1, 3: 2, 99: 50, 100: 50})
        self.leasts([("begin", 5), ("ring", 1)], {1: 1, 5: 5, 10: 9, 100: 81})
        self.leasts([("begin", 6), ("ring", 3)], {1: 1, 50: 50, 100: 100})
        self.leasts(laid(circulant(6, [1, 1])), {1: 1, 3: 2, 99: 66, 100: 67})
        self.leasts([("begin", 7), ("whole", 2)], {1: 1, 6: 1, 7: 2, 100: 17})
        self.leasts([("begin", 8), ("cube",)], {1: 1, 100: 100})
        self.leasts(laid(PETERSEN), {1: 1, 3: 2, 99: 66, 100: 67})
        self.leasts(laid(PETERSEN) + [("power", 2)], {9: 4, 100: 45})
        self.leasts(laid(PARTS), {1: 1, 100: 100})
        self.leasts(laid(ALIKE), {2: 2, 3: 2, 100: 67})
        self.leasts(laid(TWELVE), {6: 1, 99: 17, 100: 17})

    def test_all_with_all_and_with_itself(self):
        for n, c in ((2, 6), (4, 3), (5, 1), (6, 2)):
            self.leasts(laid([[c] * n for u in range(n)]), {1: 0, 2: 0, 100: 0})

    def test_by_asking_spreads_at_each_p(self):
        for rows in even_graphs()[::2] + [TWELVE]:
            calls = laid(rows)
            for q in (1, 2, 3, 10, 29):
                self.assertEqual(last(*calls, ("least", q)), least_by_asking(calls, q), (rows, q))
        for rows in even_graphs()[::7]:
            self.assertEqual(last(*laid(rows), ("least", 100)), least_by_asking(laid(rows), 100), rows)

    def test_by_the_definition(self):
        for rows in even_graphs():
            for q in (1, 13, 100):
                p = last(*laid(rows), ("least", q))
                self.assertTrue(0 <= p <= q, (rows, q))
                self.assertTrue(spreads_by(rows, p, q), (rows, q))
                self.assertFalse(p > 0 and spreads_by(rows, p - 1, q), (rows, q))

    def test_each_q(self):
        # 1 over 4, 1 over 3, half: rounded up.
        for n in (3, 4, 5):
            told = tell_each([("begin", n), ("whole", 1)], [("least", q) for q in range(1, 101)])
            self.assertEqual(told, [[-(-q // (n - 1))] for q in range(1, 101)])

    def test_q_at_the_edges(self):
        for before in ([("begin", 3), ("ring", 1)], [("begin", 3), ("line", 0, 1, 1)], [("begin", 3)]):
            for q in (LOW, -100, -1, 0, 101, 102, HIGH):
                self.refuses(3, before, ("least", q), -22)
        self.assertEqual([last(("begin", 4), ("ring", 1), ("least", q)) for q in (1, 100)], [1, 100])

    def test_not_even(self):
        for rows in NOT_EVEN:
            for q in (1, 50, 100):
                self.refuses(len(rows), laid(rows), ("least", q), -33)


if __name__ == "__main__":
    unittest.main()
