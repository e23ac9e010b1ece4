"""How calls and answers stand in their lists, -11, and that nothing is kept or changed."""

import contextlib
import io
import unittest

import spreadwalks.graph
from spreadwalks.graph import answers
from tests.asking import HIGH, LOW, NUMBERS, ask, circulant, flat, laid, lines_after, parted, tell
from tests.graphs import EVEN, NOT_EVEN, ODD, PARTS, PETERSEN

# Each call in each form that it may have; rows are lists.
FORMS = (
    ("begin", 0), ("line", 0, 0, 0), ("ring", 1), ("whole", 1), ("cube",), ("power", 1), ("degree", 0), ("even",),
    ("spreads", 1, 1), ("least", 1), ("between", [], []), ("between", [0], [0, 1]), ("staying", 0, []),
    ("staying", 1, [0, 7, 0]), ("bound", 1, 1, 1, []), ("bound", 1, 1, 1, list(range(70))), ("led_from", 0, 0),
    ("uneven", 0, 0, 1, 1), ("thinnest",), ("leaving", []), ("leaving", [0] * 70), ("row", 0),
)


def stretched(call, number):
    """The call with that number in the place of each whole number that is given."""
    return tuple([call[0]] + [given if isinstance(given, list) else number for given in call[1:]])


class Watched(list):
    """A list that may be read alone."""

    def refuse(self, *given):
        raise AssertionError("the list that is handed in is changed")

    append = extend = insert = pop = remove = clear = sort = reverse = refuse
    __setitem__ = __delitem__ = __iadd__ = __imul__ = refuse


# Sixty calls, all eighteen among them, most of them several times and some refused.
LONG = [("begin", 6), ("ring", 1)]
for count in range(58):
    LONG.append((("line", count % 6, count % 6, count % 3), ("spreads", count, 60), ("even",), ("degree", count % 8),
                 ("power", 1 + count % 5), ("ring", count % 5), ("whole", count % 3), ("least", count),
                 ("between", [0, count % 7], [1, 2, 4]), ("staying", count % 15, [0, 2, 3]), ("cube",),
                 ("bound", count % 13, count, 50, [1, 5]), ("led_from", count % 7, count % 14),
                 ("uneven", count % 6, count % 12, 3, 4), ("thinnest",), ("leaving", [count % 5, 5]), ("row", count % 7),
                 ("begin", 3 + count % 9), ("ring", 2))[count % 19])


class Lists(unittest.TestCase):
    def test_as_the_document_numbers_them(self):
        self.assertEqual(answers([0, 3, 2, 1, 7, 8, 1, 2, 8, 0, 1]), [1, 0, 1, 0, 1, 2, 1, 1, 1, 0])
        self.assertEqual(answers([0, 4, 4, 6, 3, 1, 0, 0, 5, 1, 0, 0, 9, 7, 5, 2, 3, 1, 7]),
                         [1, 0, 1, 0, 1, 2, 1, 0, 1, 5, 1, -33, 1, -28, 1, 0, 1, 3])
        self.assertEqual(spreadwalks.graph.answers([7]), [1, -11])
        self.assertEqual(spreadwalks.graph.answers(calls=[0, 11]), [1, -22])

    def test_sixty_calls(self):
        self.assertEqual(len(LONG), 60)
        self.assertEqual({call[0] for call in LONG}, set(NUMBERS))
        told = parted(answers(flat(LONG)))
        self.assertEqual(len(told), 60)
        # Each call answers as it does where the list ends with it.
        for size in range(1, 61):
            self.assertEqual(tell(*LONG[:size]), told[:size])
        self.assertEqual(ask(*[("begin", 1)] * 60), [0] * 60)

    def test_sixty_calls_by_hand(self):
        calls = [("begin", 10)] + [("line", 0, 1 + u % 9, 1) for u in range(18)]
        calls += [("degree", u) for u in range(10)] + [("even",), ("whole", 1)]
        calls += [("spreads", p, 9) for p in range(10)] + [("degree", u) for u in range(10)]
        calls += [("begin", 0), ("power", 2), ("power", 1), ("even",), ("cube",), ("ring", 3), ("even",), ("line", 9, 0, 9),
                  ("line", 9, 0, 9)]
        expected = [0] + [0] * 9 + [1] * 9 + [9] + [1] * 9 + [-33, 0] + [0] + [1] * 9 + [9] * 10
        expected += [-22, -28, 0, 9, -22, 0, 6, 3, 9]
        self.assertEqual(len(calls), 60)
        self.assertEqual(ask(*calls), expected)

    def test_sixty_calls_of_all_eighteen_by_hand(self):
        triangle = [
            (("begin", 3), [0]), (("ring", 1), [0]), (("row", 0), [2, 0, 1, 1]), (("degree", 1), [2]), (("even",), [2]),
            (("least", 100), [50]), (("spreads", 49, 100), [0]), (("spreads", 50, 100), [1]),
            (("between", [0], [1, 2]), [2, 2]), (("between", [0, 1], []), [0, 0]), (("between", [1, 0], [2]), [-22]),
            (("staying", 3, [0, 1]), [2, 1, 1, 0]), (("staying", 13, [0, 1]), [-22]),
            (("bound", 2, 1, 2, [0, 1]), [1, 200, 36]), (("bound", 2, 3, 2, [0, 1]), [-22]),
            (("led_from", 0, 2), [3, 2, 1, 1]), (("led_from", 3, 2), [-2]), (("uneven", 0, 2, 1, 2), [1, 6]),
            (("uneven", 0, 2, 1, 3), [0, 6]), (("thinnest",), [2, 1, 1]), (("leaving", [0, 2]), [2, 2]),
            (("leaving", [3]), [-22]), (("cube",), [-22]), (("whole", 2), [0]), (("row", 2), [4, 2, 2, 0]),
            (("line", 0, 0, 1), [0]), (("even",), [-33]), (("between", [0], [0, 1]), [3]), (("bound", 1, 1, 2, []), [-33]),
            (("thinnest",), [4, 1, 1]),
        ]
        square = [
            (("begin", 4), [0]), (("cube",), [0]), (("row", 3), [2, 0, 1, 1, 0]), (("least", 7), [7]),
            (("power", 3), [0]), (("row", 3), [8, 0, 4, 4, 0]), (("power", 2), [-28]), (("power", 1), [0]),
            (("between", [0, 3], [0, 3]), [0, 32]), (("leaving", [0, 3]), [16, 2]), (("thinnest",), [8, 2, 3]),
            (("staying", 2, [0, 1, 2]), [96, 32, 32, 32, 0]), (("led_from", 0, 2), [4, 32, 0, 0, 32]),
            (("uneven", 0, 2, 1, 1), [1, 16384]), (("uneven", 4, 2, 1, 1), [-2]), (("bound", 1, 1, 1, [0]), [1, 32, 4]),
            (("line", 0, 1, 0), [4]), (("least", 7), [-33]), (("least", 0), [-22]), (("uneven", 0, 2, 1, 1), [-33]),
            (("degree", 0), [4]), (("between", [0], [1, 2]), [4]), (("thinnest",), [4, 2, 5]), (("begin", 0), [-22]),
            (("row", 1), [4, 0, 0, 0, 4]), (("begin", 2), [0]), (("row", 1), [0, 0, 0]), (("row", 2), [-2]),
            (("leaving", []), [0, 0]), (("thinnest",), [0, 1, 1]),
        ]
        pairs = triangle + square
        self.assertEqual(len(pairs), 60)
        self.assertEqual({call[0] for call, expected in pairs}, set(NUMBERS))
        self.assertEqual(tell(*[call for call, expected in pairs]), [expected for call, expected in pairs])

    def test_as_the_document_numbers_those_with_rows(self):
        self.assertEqual(answers([0, 3, 2, 1, 10, 2, 0, 1, 1, 2, 11, 1, 2, 0, 2, 12, 1, 1, 2, 1, 0, 16, 0, 10, 0, 3, 0, 1, 2]),
                         [1, 0, 1, 0, 2, 2, 2, 4, 2, 1, 0, 1, 3, 1, 8, 6, 2, 0, 0, 2, 0, 0])
        self.assertEqual(answers([0, 2, 1, 0, 1, 3, 9, 4, 13, 1, 1, 14, 1, 1, 1, 1, 15, 17, 0]),
                         [1, 0, 1, 0, 1, 4, 3, 2, 3, 0, 2, 1, 18, 3, 3, 1, 1, 3, 3, 0, 3])

    def test_rows_of_seventy_are_read_to_their_end(self):
        long = list(range(70))
        for call in (("between", long, long), ("between", [], long), ("between", long, [0]), ("staying", 1, long),
                     ("bound", 1, 1, 1, long), ("leaving", long)):
            self.assertEqual(tell(("begin", 3), ("ring", 2), call, ("even",), call, ("degree", 0)),
                             [[0], [0], [-22], [4], [-22], [4]], call)

    def test_the_longest_list(self):
        long = [HIGH - u for u in range(70)]
        calls = [("begin", 10)] + [("between", long, long)] * 59
        self.assertEqual(len(flat(calls)), 2 + 59 * 143)
        self.assertEqual(tell(*calls), [[0]] + [[-22]] * 59)

    def test_all_are_whole_numbers(self):
        told = answers(flat(LONG))
        self.assertIs(type(told), list)
        self.assertEqual({type(number) for number in told}, {int})

    def test_each_answer_is_of_whole_numbers(self):
        for before in ([("begin", 1)], [("begin", 2), ("line", 0, 1, 2)], [("begin", 8), ("cube",)]):
            for call in FORMS:
                self.assertEqual({type(number) for number in answers(flat(before + [call]))}, {int}, call)

    def test_numbers_at_the_ends_of_the_range(self):
        before = [("begin", 4), ("ring", 1)]
        expected = {"begin": -22, "line": -2, "ring": -22, "whole": -22, "power": -22, "degree": -2, "spreads": -22,
                    "least": -22, "staying": -22, "bound": -22, "led_from": -2, "uneven": -2, "row": -2}
        for call in FORMS:
            if call[0] in expected:
                for number in (LOW, HIGH):
                    self.assertEqual(ask(*before, stretched(call, number), ("even",))[2:], [expected[call[0]], 2])


class NothingIsChanged(unittest.TestCase):
    """The calls that ask leave the graph as it is, answered or refused."""

    ASKED = (
        ("degree", 0), ("even",), ("spreads", 1, 2), ("least", 100), ("least", 0), ("between", [0], [0, 1]),
        ("between", [], []), ("between", [1, 0], [0]), ("staying", 12, [0, 1]), ("staying", 0, []), ("staying", 13, [0]),
        ("bound", 12, 99, 100, [0, 1]), ("bound", 0, 0, 1, []), ("bound", 1, 1, 0, [0]), ("led_from", 0, 12),
        ("led_from", 1, 0), ("led_from", 0, 13), ("led_from", 10, 1), ("uneven", 1, 12, 99, 100), ("uneven", 0, 0, 0, 1),
        ("uneven", 10, 1, 1, 1), ("uneven", 0, 1, 2, 1), ("thinnest",), ("leaving", [0, 1]), ("leaving", []),
        ("leaving", [0, 0]), ("row", 0), ("row", 1), ("row", 10),
    )

    def test_each_call(self):
        for rows in ([[0, 0], [0, 0]], EVEN, ODD, PARTS, PETERSEN, circulant(7, [1, 2, 0, 1]), NOT_EVEN[-1]):
            n = len(rows)
            before = laid(rows)
            self.assertEqual(lines_after(n, *before), rows)
            for call in self.ASKED:
                self.assertEqual(lines_after(n, *before, call, call), rows, call)
                told = tell(*before, ("row", 0), call, ("row", 0), ("row", n - 1), call)[len(before):]
                self.assertEqual(told[0], told[2], call)
                self.assertEqual(told[0], [sum(rows[0])] + rows[0], call)
                self.assertEqual(told[3], [sum(rows[-1])] + rows[-1], call)
                self.assertEqual(told[1], told[4], call)

    def test_all_of_them_one_after_another(self):
        for rows in (EVEN, ODD, PARTS, circulant(4, [1, 1, 2])):
            told = tell(*laid(rows), *self.ASKED)[len(laid(rows)):]
            for call, part in zip(self.ASKED, told):
                self.assertEqual(part, tell(*laid(rows), call)[-1], call)
            self.assertEqual(lines_after(4, *laid(rows), *self.ASKED), rows)

    def test_on_one_place(self):
        for call in self.ASKED:
            self.assertEqual(lines_after(1, ("begin", 1), ("line", 0, 0, 3), call), [[3]], call)


class BeforeBegin(unittest.TestCase):
    def test_each_call(self):
        for call in FORMS[1:]:
            self.assertEqual(ask(call), [-11], call)
            self.assertEqual(ask(call, ("even",), call, ("begin", 2), ("even",)), [-11, -11, -11, 0, -33], call)

    def test_each_form_is_there(self):
        self.assertEqual({call[0] for call in FORMS}, set(NUMBERS))

    def test_ahead_of_every_other_refusal(self):
        for call in FORMS[1:]:
            for number in (LOW, -1, 0, 1, 11, 101, HIGH):
                self.assertEqual(ask(stretched(call, number)), [-11], call)

    def test_behind_a_begin_that_is_refused(self):
        for n in (LOW, -1, 0, 11, HIGH):
            for call in FORMS[1:]:
                self.assertEqual(ask(("begin", n), call, ("begin", n), call), [-22, -11, -22, -11], (n, call))

    def test_nothing_is_laid_before(self):
        calls = [("line", 0, 1, 3), ("ring", 1), ("whole", 1), ("cube",), ("power", 2), ("begin", 4)]
        self.assertEqual(lines_after(4, *calls), [[0] * 4] * 4)

    def test_not_behind_a_begin_that_came_once(self):
        self.assertEqual(ask(("even",), ("begin", 3), ("ring", 1), ("begin", 11), ("even",), ("begin", 0), ("degree", 2)),
                         [-11, 0, 0, -22, 2, -22, 2])


class KeptAndChanged(unittest.TestCase):
    def test_what_is_handed_in_is_not_changed(self):
        for calls in (LONG, FORMS[1:]):
            handed = flat(calls)
            answers(handed)
            self.assertEqual(handed, flat(calls))
            self.assertEqual(answers(Watched(handed)), answers(handed))

    def test_runs_answer_alike(self):
        first = answers(flat(LONG))
        kept = list(first)
        self.assertEqual(answers([7, 6, 0, 8, 1, 1]), [1, -11] * 3)
        second = answers(flat(LONG))
        self.assertEqual(second, kept)
        second.clear()
        self.assertEqual(first, kept)
        self.assertEqual(answers(flat(LONG)), kept)

    def test_nothing_is_printed(self):
        out = io.StringIO()
        with contextlib.redirect_stdout(out), contextlib.redirect_stderr(out):
            answers(flat(LONG))
        self.assertEqual(out.getvalue(), "")


if __name__ == "__main__":
    unittest.main()
