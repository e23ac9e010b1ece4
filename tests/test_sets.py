"""Promise 3: between, leaving, thinnest, and rows of places."""

import itertools
import unittest

from tests.asking import Refusing, circulant, laid, tell, tell_each, tell_last
from tests.graphs import ALIKE, EVEN, MORE_PARTS, NOT_EVEN, ODD, PARTS, PETERSEN, SIDES, TWELVE
from tests.graphs import all_sets, even_graphs, renumbered, small_graphs, wrong_rows
from tests.second_way import between_by, leaving_by, thinnest_by


class RowsOfPlaces(Refusing):
    def test_wrong_ones(self):
        for rows in (EVEN, ODD):
            before = laid(rows)
            for wrong in wrong_rows(4):
                self.refuses(4, before, ("leaving", wrong), -22)
                self.refuses(4, before, ("between", wrong, [0, 3]), -22)
                self.refuses(4, before, ("between", [0, 3], wrong), -22)
                self.refuses(4, before, ("between", wrong, wrong), -22)
                self.refuses(4, before, ("between", [], wrong), -22)
                self.refuses(4, before, ("between", wrong, []), -22)

    def test_every_row_of_few_numbers(self):
        for n in (1, 2, 3):
            given = [list(row) for size in range(4) for row in itertools.product(range(-1, n + 1), repeat=size)]
            right = all_sets(n)
            told = tell_each([("begin", n)], [("leaving", row) for row in given])
            self.assertEqual(told, [[0, len(row)] if row in right else [-22] for row in given])
            told = tell_each([("begin", n)], [("between", row, []) for row in given])
            self.assertEqual(told, [[0] if row in right else [-22] for row in given])
            told = tell_each([("begin", n)], [("between", [], row) for row in given])
            self.assertEqual(told, [[0] if row in right else [-22] for row in given])

    def test_right_ones_at_the_edges(self):
        for n in (1, 2, 9, 10):
            before = [("begin", n), ("line", 0, n - 1, 2)]
            for places in ([], [0], [n - 1], list(range(n))):
                self.assertEqual(tell_last(*before, ("leaving", places))[1], len(places))
                self.assertGreaterEqual(tell_last(*before, ("between", places, places))[0], 0)
            self.refuses(n, before, ("leaving", [n]), -22)
            self.refuses(n, before, ("leaving", list(range(n + 1))), -22)

    def test_places_are_those_of_the_last_begin(self):
        calls = [("begin", 5), ("leaving", [4]), ("begin", 3), ("leaving", [4]), ("leaving", [2]), ("begin", 11),
                 ("leaving", [2]), ("leaving", [3])]
        self.assertEqual(tell(*calls), [[0], [0, 1], [0], [-22], [0, 1], [-22], [0, 1], [-22]])


class Between(Refusing):
    def test_by_hand_where_it_is_even(self):
        calls = laid(EVEN)
        for ones, others, expected in (
                ([0], [1], [2, 4]), ([1], [0], [2, 4]), ([0], [2], [0, 4]), ([0], [0], [1, 0]), ([1], [1], [0, 4]),
                ([3], [3], [2, 4]), ([0, 1], [2, 3], [3, 4]), ([0, 1], [0, 1], [5, 4]), ([0, 3], [0, 3], [5, 4]),
                ([0], [0, 1, 2, 3], [4, 0]), ([0, 1, 2, 3], [0, 1, 2, 3], [16, 0]), ([], [0, 1], [0, 0]),
                ([0, 1], [], [0, 0]), ([], [], [0, 0]), ([1, 2], [0, 2, 3], [6, 0]), ([0, 1, 2], [1, 2, 3], [9, 0])):
            self.assertEqual(tell_last(*calls, ("between", ones, others)), expected, (ones, others))

    def test_by_hand_where_it_is_not(self):
        calls = laid(ODD)
        for ones, others, count in (([0], [1], 2), ([1, 2], [1, 2], 11), ([2], [2], 1), ([0, 1, 2, 3], [0, 1, 2, 3], 22),
                                    ([], [1], 0), ([1], [], 0), ([], [], 0), ([3], [0, 2, 3], 4)):
            self.assertEqual(tell_last(*calls, ("between", ones, others)), [count], (ones, others))

    def test_two_numbers_or_one_as_the_graph_changes(self):
        asked = ("between", [0], [0, 1])
        calls = [("begin", 3), asked, ("ring", 2), asked, ("line", 0, 0, 1), asked, ("line", 1, 1, 1), ("line", 2, 2, 1),
                 asked]
        self.assertEqual(tell(*calls), [[0], [0], [0], [2, 2], [0], [3], [0], [0], [3, 1]])

    def test_a_line_to_itself_counts_once(self):
        self.assertEqual(tell_last(("begin", 1), ("line", 0, 0, 5), ("between", [0], [0])), [5, 0])
        calls = [("begin", 2), ("line", 0, 0, 5), ("line", 0, 1, 2)]
        told = tell_each(calls, [("between", *pair) for pair in (([0], [0]), ([0], [0, 1]), ([0, 1], [0]), ([0, 1], [0, 1]))])
        self.assertEqual(told, [[5], [7], [7], [9]])

    def test_how_far_off_either_way(self):
        # Sides that change about: none within one side, all across.
        told = tell_each(laid(SIDES), [("between", [0, 1, 2], [0, 1, 2]), ("between", [0, 1, 2], [3, 4, 5]),
                                       ("between", [0, 3], [1, 4]), ("between", [0], [3])])
        self.assertEqual(told, [[0, 27], [9, 27], [2, 0], [1, 3]])

    def test_line_by_line(self):
        for rows in small_graphs():
            sets = all_sets(len(rows))
            pairs = list(itertools.product(sets, sets))
            pairs = pairs[::1 + len(pairs) // 300]
            told = tell_each(laid(rows), [("between", ones, others) for ones, others in pairs])
            self.assertEqual(told, [between_by(rows, ones, others) for ones, others in pairs], rows)

    def test_line_by_line_on_ten_places(self):
        for rows in (PETERSEN, TWELVE, circulant(10, [2, 1, 0, 1]), NOT_EVEN[-1]):
            sets = all_sets(10)
            pairs = list(zip(sets[::17], sets[::-13]))
            told = tell_each(laid(rows), [("between", ones, others) for ones, others in pairs])
            self.assertEqual(told, [between_by(rows, ones, others) for ones, others in pairs])

    def test_not_refused_where_it_is_not_even(self):
        for rows in NOT_EVEN:
            every = list(range(len(rows)))
            self.assertEqual(tell_last(*laid(rows), ("between", every, every)), [sum(map(sum, rows))])


class Leaving(Refusing):
    def test_by_hand(self):
        told = tell_each(laid(ODD), [("leaving", places) for places in ([], [0], [1], [2], [0, 1], [1, 2], [0, 1, 2],
                                                                        [0, 1, 2, 3])])
        self.assertEqual(told, [[0, 0], [3, 1], [7, 1], [6, 1], [6, 2], [3, 2], [2, 3], [0, 4]])

    def test_lines_to_itself_do_not_leave(self):
        self.assertEqual(tell_last(("begin", 1), ("line", 0, 0, 9), ("leaving", [0])), [0, 1])
        self.assertEqual(tell_last(("begin", 2), ("line", 0, 0, 9), ("line", 0, 1, 3), ("leaving", [0])), [3, 1])

    def test_built_graphs(self):
        self.assertEqual(tell_last(("begin", 6), ("ring", 3), ("leaving", [0, 1, 2])), [6, 3])
        self.assertEqual(tell_last(("begin", 6), ("ring", 3), ("leaving", [0, 2, 4])), [18, 3])
        self.assertEqual(tell_last(("begin", 10), ("whole", 1), ("leaving", [0, 3, 9])), [21, 3])
        self.assertEqual(tell_last(("begin", 8), ("cube",), ("leaving", [0, 1, 2, 3])), [4, 4])
        self.assertEqual(tell_last(*laid(PARTS), ("leaving", [0, 1, 2])), [0, 3])

    def test_line_by_line(self):
        for rows in small_graphs() + [PETERSEN, TWELVE, NOT_EVEN[-1]]:
            sets = all_sets(len(rows))
            sets = sets[::1 + len(sets) // 100]
            told = tell_each(laid(rows), [("leaving", places) for places in sets])
            self.assertEqual(told, [leaving_by(rows, places) for places in sets], rows)


class Thinnest(Refusing):
    def test_one_place(self):
        self.refuses(1, [("begin", 1)], ("thinnest",), -33)
        self.refuses(1, [("begin", 1), ("line", 0, 0, 9)], ("thinnest",), -33)

    def test_two_places(self):
        self.assertEqual(tell_last(("begin", 2), ("thinnest",)), [0, 1, 1])
        self.assertEqual(tell_last(("begin", 2), ("line", 0, 1, 9), ("line", 1, 1, 3), ("thinnest",)), [9, 1, 1])
        self.assertEqual(tell_last(("begin", 2), ("line", 0, 0, 9), ("line", 1, 1, 9), ("thinnest",)), [0, 1, 1])

    def test_no_lines(self):
        for n in range(2, 11):
            self.assertEqual(tell_last(("begin", n), ("thinnest",)), [0, 1, 1])

    def test_not_even_graphs_are_answered(self):
        self.assertEqual(tell_last(*laid(ODD), ("thinnest",)), [3, 2, 6])
        # The path of five places: an end of two.
        self.assertEqual(tell_last(("begin", 5), *[("line", u, u + 1, 1) for u in range(4)], ("thinnest",)), [1, 2, 3])
        # The star: a place at its end.
        self.assertEqual(tell_last(*laid(NOT_EVEN[7]), ("thinnest",)), [2, 1, 2])

    def test_lines_to_itself_do_not_lead_to_others(self):
        before = [("begin", 4), ("ring", 1)]
        self.assertEqual(tell_last(*before, ("thinnest",)), [2, 2, 3])
        self.assertEqual(tell_last(*before, ("line", 0, 0, 9), ("line", 1, 1, 5), ("thinnest",)), [2, 2, 3])

    def test_odd_numbers_of_places(self):
        # Of three places sets of one; of five sets of two, at most.
        self.assertEqual(tell_last(("begin", 3), ("ring", 1), ("thinnest",)), [2, 1, 1])
        self.assertEqual(tell_last(("begin", 5), ("ring", 1), ("thinnest",)), [2, 2, 3])
        self.assertEqual(tell_last(("begin", 7), ("ring", 2), ("thinnest",)), [4, 3, 7])
        self.assertEqual(tell_last(("begin", 9), ("whole", 1), ("thinnest",)), [20, 4, 15])
        # Two places by themselves would be more than half of three: nothing but the third leads nowhere.
        self.assertEqual(tell_last(("begin", 3), ("line", 0, 1, 4), ("thinnest",)), [0, 1, 4])

    def test_even_numbers_of_places(self):
        self.assertEqual(tell_last(("begin", 10), ("ring", 3), ("thinnest",)), [6, 5, 31])
        self.assertEqual(tell_last(("begin", 8), ("cube",), ("thinnest",)), [4, 4, 15])
        self.assertEqual(tell_last(("begin", 10), ("whole", 1), ("thinnest",)), [25, 5, 31])

    def test_of_like_ones_the_least_number(self):
        # Both ends of the path: the one with places 0 and 1.
        self.assertEqual(tell_last(("begin", 4), *[("line", u, u + 1, 3) for u in range(3)], ("thinnest",)), [3, 2, 3])
        # One line from place 3 alone, two from 0 and 1: alike for how many places they have; 3 is less than 8.
        rows = [[0, 9, 1, 0, 0, 0], [9, 0, 1, 0, 0, 0], [1, 1, 0, 1, 3, 3], [0, 0, 1, 0, 0, 0], [0, 0, 3, 0, 0, 0],
                [0, 0, 3, 0, 0, 0]]
        self.assertEqual(tell_last(*laid(rows), ("thinnest",)), [2, 2, 3])
        # The same with the one place numbered 0: 1 is less than all others.
        self.assertEqual(tell_last(*laid(renumbered(rows, [3, 0, 1, 2, 4, 5])), ("thinnest",)), [1, 1, 1])
        # Place 5 alone and 0, 1, 2 together lead nowhere: 7 is less than 32.
        self.assertEqual(tell_last(("begin", 6), ("line", 0, 1, 1), ("line", 1, 2, 1), ("line", 3, 4, 2), ("thinnest",)),
                         [0, 3, 7])
        self.assertEqual(tell_last(("begin", 6), ("line", 5, 4, 1), ("line", 4, 3, 1), ("line", 0, 1, 2), ("thinnest",)),
                         [0, 2, 3])

    def test_two_parts_with_no_line_between(self):
        self.assertEqual(tell_last(*laid(PARTS), ("thinnest",)), [0, 1, 8])
        self.assertEqual(tell_last(*laid(renumbered(PARTS, [3, 0, 1, 2])), ("thinnest",)), [0, 1, 1])
        self.assertEqual(tell_last(*laid(MORE_PARTS[3]), ("thinnest",)), [0, 2, 3])
        halves = [[0, 0, 2, 0], [0, 0, 0, 2], [2, 0, 0, 0], [0, 2, 0, 0]]
        self.assertEqual(tell_last(*laid(halves), ("thinnest",)), [0, 2, 5])

    def test_more_places_may_be_thinner_with_more_lines(self):
        self.assertEqual(tell_last(*laid(ALIKE), ("thinnest",)), [2, 1, 1])
        # Two whole fours with two lines between: half a line for each place, and less from none.
        rows = [[int(u != v and (u < 4) == (v < 4)) for v in range(8)] for u in range(8)]
        rows[0][7] = rows[7][0] = rows[3][4] = rows[4][3] = 1
        self.assertEqual(tell_last(*laid(rows), ("thinnest",)), [2, 4, 15])

    def test_set_by_set(self):
        for rows in small_graphs() + even_graphs()[::5] + [PETERSEN, SIDES, TWELVE, NOT_EVEN[-1]]:
            if len(rows) > 1:
                self.assertEqual(tell_last(*laid(rows), ("thinnest",)), thinnest_by(rows), rows)

    def test_however_the_places_are_numbered(self):
        for rows in (ODD, NOT_EVEN[6], PARTS, MORE_PARTS[1]):
            for order in itertools.permutations(range(4)):
                turned = renumbered(rows, order)
                self.assertEqual(tell_last(*laid(turned), ("thinnest",)), thinnest_by(turned), turned)

    def test_every_graph_of_three_places(self):
        for counts in itertools.product(range(3), repeat=6):
            a, b, c, x, y, z = counts
            rows = [[x, a, b], [a, y, c], [b, c, z]]
            self.assertEqual(tell_last(*laid(rows), ("thinnest",)), thinnest_by(rows), rows)


if __name__ == "__main__":
    unittest.main()
