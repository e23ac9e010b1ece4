"""How calls and answers stand in their lists, -11, and that nothing is kept or changed."""

import contextlib
import io
import unittest

import spreadwalks.graph
from spreadwalks.graph import answers
from tests.asking import HIGH, LOW, NUMBERS, ask, flat, lines_after, parted

# Each call in each form that it may have; rows are lists.
FORMS = (
    ("begin", 0), ("line", 0, 0, 0), ("ring", 1), ("whole", 1), ("cube",), ("power", 1), ("degree", 0), ("even",),
    ("spreads", 1, 1), ("least", 1), ("between", [], []), ("between", [0], [0, 1]), ("staying", 0, []),
    ("staying", 1, [0, 7, 0]), ("bound", 1, 1, 1, []), ("bound", 1, 1, 1, list(range(70))), ("led_from", 0, 0),
    ("uneven", 0, 0, 1, 1), ("thinnest",), ("leaving", []), ("leaving", [0] * 70), ("row", 0),
)


def stretched(call, number):
    """The call with that number in the place of each whole number that is given."""
    return tuple([call[0]] + [given if isinstance(given, list) else number for given in call[1:]])


class Watched(list):
    """A list that may be read alone."""

    def refuse(self, *given):
        raise AssertionError("the list that is handed in is changed")

    append = extend = insert = pop = remove = clear = sort = reverse = refuse
    __setitem__ = __delitem__ = __iadd__ = __imul__ = refuse


LONG = [("begin", 6), ("ring", 1)]
for count in range(58):
    LONG.append((("line", count % 6, count % 6, count % 3), ("spreads", count, 60), ("even",), ("degree", count % 8),
                 ("power", 1 + count % 5), ("ring", count % 5), ("whole", count % 3))[count % 7])


class Lists(unittest.TestCase):
    def test_as_the_document_numbers_them(self):
        self.assertEqual(answers([0, 3, 2, 1, 7, 8, 1, 2, 8, 0, 1]), [1, 0, 1, 0, 1, 2, 1, 1, 1, 0])
        self.assertEqual(answers([0, 4, 4, 6, 3, 1, 0, 0, 5, 1, 0, 0, 9, 7, 5, 2, 3, 1, 7]),
                         [1, 0, 1, 0, 1, 2, 1, 0, 1, 5, 1, -33, 1, -28, 1, 0, 1, 3])
        self.assertEqual(spreadwalks.graph.answers([7]), [1, -11])
        self.assertEqual(spreadwalks.graph.answers(calls=[0, 11]), [1, -22])

    def test_sixty_calls(self):
        self.assertEqual(len(LONG), 60)
        told = parted(answers(flat(LONG)))
        self.assertEqual(len(told), 60)
        # Each call answers as it does where the list ends with it.
        for size in range(1, 61):
            self.assertEqual(ask(*LONG[:size]), [part[0] for part in told[:size]])
        self.assertEqual(ask(*[("begin", 1)] * 60), [0] * 60)

    def test_sixty_calls_by_hand(self):
        calls = [("begin", 10)] + [("line", 0, 1 + u % 9, 1) for u in range(18)]
        calls += [("degree", u) for u in range(10)] + [("even",), ("whole", 1)]
        calls += [("spreads", p, 9) for p in range(10)] + [("degree", u) for u in range(10)]
        calls += [("begin", 0), ("power", 2), ("power", 1), ("even",), ("cube",), ("ring", 3), ("even",), ("line", 9, 0, 9),
                  ("line", 9, 0, 9)]
        expected = [0] + [0] * 9 + [1] * 9 + [9] + [1] * 9 + [-33, 0] + [0] + [1] * 9 + [9] * 10
        expected += [-22, -28, 0, 9, -22, 0, 6, 3, 9]
        self.assertEqual(len(calls), 60)
        self.assertEqual(ask(*calls), expected)

    def test_all_are_whole_numbers(self):
        told = answers(flat(LONG))
        self.assertIs(type(told), list)
        self.assertEqual({type(number) for number in told}, {int})

    def test_numbers_at_the_ends_of_the_range(self):
        before = [("begin", 4), ("ring", 1)]
        expected = {"begin": -22, "line": -2, "ring": -22, "whole": -22, "power": -22, "degree": -2, "spreads": -22}
        for call in FORMS:
            if call[0] in expected:
                for number in (LOW, HIGH):
                    self.assertEqual(ask(*before, stretched(call, number), ("even",))[2:], [expected[call[0]], 2])


class BeforeBegin(unittest.TestCase):
    def test_each_call(self):
        for call in FORMS[1:]:
            self.assertEqual(ask(call), [-11], call)
            self.assertEqual(ask(call, ("even",), call, ("begin", 2), ("even",)), [-11, -11, -11, 0, -33], call)

    def test_each_form_is_there(self):
        self.assertEqual({call[0] for call in FORMS}, set(NUMBERS))

    def test_ahead_of_every_other_refusal(self):
        for call in FORMS[1:]:
            for number in (LOW, -1, 0, 1, 11, 101, HIGH):
                self.assertEqual(ask(stretched(call, number)), [-11], call)

    def test_behind_a_begin_that_is_refused(self):
        for n in (LOW, -1, 0, 11, HIGH):
            for call in FORMS[1:]:
                self.assertEqual(ask(("begin", n), call, ("begin", n), call), [-22, -11, -22, -11], (n, call))

    def test_nothing_is_laid_before(self):
        calls = [("line", 0, 1, 3), ("ring", 1), ("whole", 1), ("cube",), ("power", 2), ("begin", 4)]
        self.assertEqual(lines_after(4, *calls), [[0] * 4] * 4)

    def test_not_behind_a_begin_that_came_once(self):
        self.assertEqual(ask(("even",), ("begin", 3), ("ring", 1), ("begin", 11), ("even",), ("begin", 0), ("degree", 2)),
                         [-11, 0, 0, -22, 2, -22, 2])


class KeptAndChanged(unittest.TestCase):
    def test_what_is_handed_in_is_not_changed(self):
        for calls in (LONG, FORMS[1:]):
            handed = flat(calls)
            answers(handed)
            self.assertEqual(handed, flat(calls))
            self.assertEqual(answers(Watched(handed)), answers(handed))

    def test_runs_answer_alike(self):
        first = answers(flat(LONG))
        kept = list(first)
        self.assertEqual(answers([7, 6, 0, 8, 1, 1]), [1, -11] * 3)
        second = answers(flat(LONG))
        self.assertEqual(second, kept)
        second.clear()
        self.assertEqual(first, kept)
        self.assertEqual(answers(flat(LONG)), kept)

    def test_nothing_is_printed(self):
        out = io.StringIO()
        with contextlib.redirect_stdout(out), contextlib.redirect_stderr(out):
            answers(flat(LONG))
        self.assertEqual(out.getvalue(), "")


if __name__ == "__main__":
    unittest.main()
