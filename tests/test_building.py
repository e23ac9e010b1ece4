"""Promise 1: begin, line, ring, whole, cube, power."""

import unittest

from tests.asking import HIGH, LOW, Refusing, ask, circulant, laid, last, lines_after, walked


def nothing(n):
    return [[0] * n for u in range(n)]


class Begin(Refusing):
    def test_each_size(self):
        for n in range(1, 11):
            self.assertEqual(ask(("begin", n)), [0])
            self.assertEqual(lines_after(n, ("begin", n)), nothing(n))
            self.assertEqual(ask(("begin", n), ("degree", n - 1), ("degree", n)), [0, 0, -2])

    def test_refused_sizes_on_a_new_object(self):
        for n in (LOW, -1, 0, 11, 12, HIGH):
            self.assertEqual(ask(("begin", n), ("even",)), [-22, -11])

    def test_refused_sizes_on_one_that_has_begun(self):
        before = [("begin", 4), ("ring", 2), ("line", 1, 1, 3)]
        for n in (LOW, -1, 0, 11, HIGH):
            self.refuses(4, before, ("begin", n), -22)

    def test_comes_again(self):
        for n in (1, 3, 5, 10):
            again = [("begin", 5), ("whole", 2), ("begin", n)]
            self.assertEqual(ask(*again), [0, 0, 0])
            self.assertEqual(lines_after(n, *again), nothing(n))
            self.assertEqual(last(*again, ("degree", n)), -2)


class Line(Refusing):
    def test_answers_how_many_there_were(self):
        calls = [("begin", 3), ("line", 0, 1, 4), ("line", 1, 0, 9), ("line", 0, 1, 2), ("line", 0, 1, 0),
                 ("line", 0, 1, 0)]
        self.assertEqual(ask(*calls), [0, 0, 4, 9, 2, 0])

    def test_goes_both_ways_and_touches_no_other(self):
        rows = lines_after(4, ("begin", 4), ("line", 2, 0, 5), ("line", 1, 3, 1))
        self.assertEqual(rows, [[0, 0, 5, 0], [0, 0, 0, 1], [5, 0, 0, 0], [0, 1, 0, 0]])

    def test_to_itself_counts_once(self):
        calls = [("begin", 2), ("line", 1, 1, 7), ("degree", 1), ("degree", 0), ("line", 1, 1, 9), ("degree", 1)]
        self.assertEqual(ask(*calls), [0, 0, 7, 0, 7, 9])

    def test_no_such_place(self):
        before = [("begin", 3), ("line", 0, 2, 1)]
        for wrong in (LOW, -1, 3, 4, 10, HIGH):
            for right in (0, 2):
                self.refuses(3, before, ("line", wrong, right, 2), -2)
                self.refuses(3, before, ("line", right, wrong, 2), -2)
            self.refuses(3, before, ("line", wrong, wrong, 2), -2)

    def test_how_many_at_the_edges(self):
        before = [("begin", 2), ("line", 0, 1, 5)]
        for c in (0, 1, 8, 9):
            self.assertEqual(ask(*before, ("line", 1, 0, c), ("degree", 0), ("degree", 1)), [0, 0, 5, c, c])
        for c in (LOW, -1, 10, 11, 12, 13, HIGH):
            self.refuses(2, before, ("line", 0, 1, c), -22)
            self.refuses(2, before, ("line", 1, 1, c), -22)

    def test_twelve_lines_from_a_place_and_thirteen(self):
        before = [("begin", 4), ("line", 1, 0, 9)]
        for u, v in ((1, 2), (2, 1), (1, 1), (0, 0), (3, 0)):
            full = 1 if 1 in (u, v) else 0
            self.assertEqual(ask(*before, ("line", u, v, 3), ("degree", full)), [0, 0, 0, 12])
            self.refuses(4, before, ("line", u, v, 4), -28)
            self.refuses(4, before, ("line", u, v, 9), -28)

    def test_those_that_were_there_do_not_count(self):
        before = [("begin", 2), ("line", 0, 1, 9), ("line", 0, 0, 3)]
        self.assertEqual(ask(*before, ("line", 0, 1, 9), ("line", 0, 0, 3), ("degree", 0))[3:], [9, 3, 12])
        self.assertEqual(ask(*before, ("line", 0, 1, 4), ("line", 0, 0, 8), ("degree", 0))[3:], [9, 3, 12])
        self.refuses(2, before, ("line", 0, 0, 4), -28)

    def test_the_first_named_refusal(self):
        full = [("begin", 2), ("line", 0, 1, 9), ("line", 0, 0, 3)]
        self.refuses(2, full, ("line", 2, 0, 10), -2)
        self.refuses(2, full, ("line", 0, -1, -1), -2)
        self.refuses(2, full, ("line", LOW, HIGH, HIGH), -2)
        self.refuses(2, full, ("line", 0, 0, 10), -22)
        self.refuses(2, full, ("line", 0, 0, HIGH), -22)


class Ring(Refusing):
    def test_each_ring(self):
        for n in range(3, 11):
            for c in (1, 2, 3):
                # Lines that were there, to itself and across, are to be gone.
                calls = [("begin", n), ("line", 0, 0, 2), ("line", 0, 2, 5), ("line", 0, 1, 4), ("ring", c)]
                self.assertEqual(last(*calls), 0)
                self.assertEqual(lines_after(n, *calls), circulant(n, [0, c]))

    def test_how_many_refused(self):
        before = [("begin", 3), ("line", 0, 1, 2)]
        for c in (LOW, -1, 0, 4, 5, HIGH):
            self.refuses(3, before, ("ring", c), -22)

    def test_fewer_than_three_places(self):
        for n in (1, 2):
            for c in (0, 1, 3, 4):
                self.refuses(n, [("begin", n), ("line", 0, n - 1, 2)], ("ring", c), -22)


class Whole(Refusing):
    def test_all_with_all(self):
        for n in range(2, 11):
            for c in (1, 2, 3):
                before = [("begin", n), ("line", 0, 0, 2), ("line", 0, 1, 5)]
                if c * (n - 1) > 12:
                    self.refuses(n, before, ("whole", c), -22)
                else:
                    self.assertEqual(last(*before, ("whole", c)), 0)
                    rows = [[0 if u == v else c for v in range(n)] for u in range(n)]
                    self.assertEqual(lines_after(n, *before, ("whole", c)), rows)

    def test_twelve_lines_and_more(self):
        told = [last(("begin", n), ("whole", c)) for n, c in ((5, 3), (6, 3), (7, 2), (8, 2), (10, 1), (10, 2))]
        self.assertEqual(told, [0, -22, 0, -22, 0, -22])

    def test_how_many_refused(self):
        before = [("begin", 3), ("line", 0, 1, 2)]
        for c in (LOW, -1, 0, 4, 5, HIGH):
            self.refuses(3, before, ("whole", c), -22)

    def test_one_place(self):
        for c in (0, 1, 2, 3, 4):
            self.refuses(1, [("begin", 1), ("line", 0, 0, 2)], ("whole", c), -22)


class Cube(Refusing):
    def test_two_four_eight(self):
        self.assertEqual(lines_after(2, ("begin", 2), ("cube",)), [[0, 1], [1, 0]])
        self.assertEqual(lines_after(4, ("begin", 4), ("cube",)),
                         [[0, 1, 1, 0], [1, 0, 0, 1], [1, 0, 0, 1], [0, 1, 1, 0]])
        rows = [[int(bin(u ^ v).count("1") == 1) for v in range(8)] for u in range(8)]
        self.assertEqual(lines_after(8, ("begin", 8), ("cube",)), rows)

    def test_no_others(self):
        for n in (2, 4, 8):
            calls = [("begin", n), ("line", 0, 0, 2), ("line", 0, n - 1, 7), ("cube",)]
            self.assertEqual(last(*calls), 0)
            self.assertEqual(lines_after(n, *calls), lines_after(n, ("begin", n), ("cube",)))

    def test_other_sizes(self):
        for n in (1, 3, 5, 6, 7, 9, 10):
            self.refuses(n, [("begin", n), ("line", 0, n - 1, 2)], ("cube",), -22)


class Power(Refusing):
    def powers(self, rows, k, expected):
        calls = laid(rows) + [("power", k)]
        self.assertEqual(last(*calls), 0)
        self.assertEqual(lines_after(len(rows), *calls), expected)

    def test_by_hand(self):
        path = [[0, 1, 0], [1, 0, 1], [0, 1, 0]]
        self.powers(path, 1, path)
        self.powers(path, 2, [[1, 0, 1], [0, 2, 0], [1, 0, 1]])
        self.powers(path, 3, [[0, 2, 0], [2, 0, 2], [0, 2, 0]])
        self.powers(path, 4, [[2, 0, 2], [0, 4, 0], [2, 0, 2]])
        self.powers(circulant(5, [0, 1]), 2, circulant(5, [2, 0, 1]))
        self.powers(circulant(5, [0, 1]), 3, circulant(5, [0, 3, 1]))

    def test_walks_there_and_back(self):
        self.powers([[0, 3], [3, 0]], 2, [[9, 0], [0, 9]])
        self.powers([[0, 1], [1, 0]], 4, [[1, 0], [0, 1]])

    def test_more_than_nine_lines_between_two(self):
        before = laid([[0, 3, 1], [3, 0, 0], [1, 0, 0]]) + [("power", 2)]
        self.assertEqual(ask(*before, ("degree", 0), ("line", 0, 0, 9), ("line", 0, 0, 0))[-3:], [10, 10, 9])
        self.refuses(3, before, ("line", 0, 0, 10), -22)

    def test_no_lines(self):
        for k in (1, 2, 3, 4):
            self.powers(nothing(3), k, nothing(3))

    def test_walks_counted_one_by_one(self):
        odd = [[1, 2, 0, 0], [2, 0, 1, 0], [0, 1, 0, 0], [0, 0, 0, 1]]
        for rows in (odd, circulant(6, [1, 1]), circulant(7, [0, 1]), circulant(10, [0, 0, 0, 1, 0, 1])):
            for k in (1, 2, 3, 4):
                expected = walked(rows, k)
                if max(sum(row) for row in expected) > 12:
                    self.refuses(len(rows), laid(rows), ("power", k), -28)
                else:
                    self.powers(rows, k, expected)

    def test_twelve_walks_and_thirteen(self):
        twelve = [[0, 3, 1], [3, 0, 0], [1, 0, 0]]
        self.powers(twelve, 2, [[10, 0, 0], [0, 9, 3], [0, 3, 1]])
        thirteen = [[0, 3], [3, 1]]
        self.refuses(2, laid(thirteen), ("power", 2), -28)
        self.refuses(3, laid([[0, 0, 0], [0, 1, 3], [0, 3, 0]]), ("power", 2), -28)

    def test_how_far_refused(self):
        before = laid([[0, 1], [1, 0]])
        for k in (1, 4):
            self.assertEqual(last(*before, ("power", k)), 0)
        for k in (LOW, -1, 0, 5, 6, HIGH):
            self.refuses(2, before, ("power", k), -22)

    def test_the_first_named_refusal(self):
        full = laid([[3, 9], [9, 3]])
        self.refuses(2, full, ("power", 4), -28)
        for k in (LOW, 0, 5, HIGH):
            self.refuses(2, full, ("power", k), -22)

    def test_again_and_again(self):
        calls = laid(circulant(4, [0, 1])) + [("power", 2), ("power", 1)]
        self.assertEqual(lines_after(4, *calls), circulant(4, [2, 0, 2]))
        self.refuses(4, calls, ("power", 2), -28)


if __name__ == "__main__":
    unittest.main()
