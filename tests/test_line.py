import contextlib
import inspect
import io
import sys
import unittest
from unittest import mock

from planenumbers.plane import answers
from tests.helper import ALIKE, APART, COMMON, DIVIDE, FEW, FORM, KIND, MOST, NORM, POW, PRIME, SIZE, TIMES
from tests.helper import ask, ask_raw, call

MIXED = (
    call(PRIME, (5, 0)) + call(APART, (5, 0)) + [KIND, 1] + call(PRIME, (5, 0)) + call(APART, (5, 0))
    + call(DIVIDE, (1, 0), (0, 0)) + call(COMMON, (3, 0), (1, -1)) + [KIND, 7] + call(TIMES, (0, 1), (0, 1))
    + [TIMES, MOST, 0, 0, 0] + [KIND, 0] + call(DIVIDE, (7, 5), (2, 1)) + call(APART, (0, 0)) + call(APART, (0, 1))
)
MIXED_ANSWERS = [
    1, 0,
    10, 0, 0, -1, 2, 1, 2, 1, 2, 1, 1,
    1, 6,
    1, 1,
    7, 0, 1, 0, 1, 5, 0, 1,
    1, -6,
    3, 0, 2, 1,
    1, -1,
    3, 0, -1, -1,
    1, -1,
    1, 4,
    5, 0, 4, 1, 0, -1,
    1, -6,
    4, 0, 0, 1, 0,
]

# All twelve calls, thirty in all: each with what it answers there.
ROWS = [
    (call(NORM, (2, -3)), [13]),
    (call(FORM, (-2, 3)), [0, 3, 2]),
    ([SIZE, 25], [3, 3, 4, 4, 3, 5, 0]),
    ([SIZE, 0], [-1]),
    (call(FEW, (5, 0)), [16]),
    ([KIND, 1], [6]),
    (call(NORM, (2, -3)), [19]),
    (call(FORM, (-1, 2)), [0, 3, 1]),
    ([SIZE, 7], [2, 3, 1, 3, 2]),
    (call(FEW, (5, 0)), [24]),
    (call(POW, (1, 0), (0, 0)) + [3], [-6]),
    (call(ALIKE, (3, 0), (0, 0), (2, 1)), [1]),
    ([KIND, 2], [-1]),
    (call(POW, (2, 1), (7, 0)) + [2], [0, 3, 3]),
    (call(TIMES, (0, 1), (0, 1)), [0, -1, -1]),
    (call(PRIME, (5, 0)), [1]),
    (call(APART, (7, 0)), [0, 0, -1, 2, 3, 1, 1, 3, 2, 1]),
    (call(FEW, (0, 0)), [-6]),
    (call(COMMON, (3, 0), (1, -1)), [0, 2, 1]),
    ([KIND, 0], [4]),
    (call(ALIKE, (3, 0), (0, 0), (2, 1)), [0]),
    ([NORM, 201, 0], [-1]),
    (call(POW, (2, 1), (7, 0)) + [2], [0, 3, -3]),
    (call(DIVIDE, (7, 5), (2, 1)), [0, 4, 1, 0, -1]),
    (call(PRIME, (5, 0)), [0]),
    (call(APART, (0, 0)), [-6]),
    (call(COMMON, (5, 0), (3, 4)), [0, 2, 1]),
    ([POW, 202, 0, 0, 0, 1], [-1]),
    (call(TIMES, (0, 1), (0, 1)), [0, -1, 0]),
    ([SIZE, 3], [0]),
]
TWELVE = [z for asked, told in ROWS for z in asked]
TWELVE_ANSWERS = [z for asked, told in ROWS for z in [len(told)] + told]
LINES = ((MIXED, MIXED_ANSWERS), (TWELVE, TWELVE_ANSWERS))


class Unchanging(list):
    """A list that fails the test as soon as anything tries to change it, even for a while."""

    def refuse(self, *given, **named):
        raise AssertionError("the list that was handed in is changed")

    __setitem__ = __delitem__ = __iadd__ = __imul__ = refuse
    append = extend = insert = pop = remove = clear = sort = reverse = refuse


class Line(unittest.TestCase):
    def test_several_calls_with_the_kind_changed(self):
        self.assertEqual(answers(list(MIXED)), MIXED_ANSWERS)

    def test_all_twelve_calls_mixed(self):
        self.assertEqual(len(ROWS), 30)
        self.assertEqual({asked[0] for asked, told in ROWS}, set(range(12)))
        self.assertEqual(answers(list(TWELVE)), TWELVE_ANSWERS)

    def test_one_call(self):
        self.assertEqual(answers([KIND, 0]), [1, 4])
        self.assertEqual(answers(call(PRIME, (3, 0))), [1, 1])
        self.assertEqual(answers(call(APART, (0, 0))), [1, -6])

    def test_what_is_answered_of_each(self):
        self.assertEqual(answers(call(TIMES, (2, 3), (4, 5))), [3, 0, -7, 22])
        self.assertEqual(answers(call(DIVIDE, (7, 5), (2, 1))), [5, 0, 4, 1, 0, -1])
        self.assertEqual(answers(call(COMMON, (5, 0), (3, 4))), [3, 0, 2, 1])
        self.assertEqual(answers(call(APART, (-6, 0))), [10, 0, 0, 1, 2, 1, 1, 2, 3, 0, 1])
        self.assertEqual(answers([SIZE, 5]), [5, 2, 1, 2, 2, 1])
        self.assertEqual(answers([SIZE, 3]), [1, 0])
        self.assertEqual(answers(call(FORM, (-2, 3))), [3, 0, 3, 2])
        self.assertEqual(answers(call(ALIKE, (1, 0), (0, 1), (1, 1))), [1, 1])
        self.assertEqual(answers(call(POW, (2, 1), (7, 0)) + [2]), [3, 0, 3, -3])
        self.assertEqual(answers(call(FEW, (3, 0))), [1, 8])
        self.assertEqual(answers(call(NORM, (2, -3))), [1, 13])

    def test_thirty_calls(self):
        for one in (call(TIMES, (-100, 100), (99, -3)), call(DIVIDE, (100, 99), (-7, 3)), call(COMMON, (96, 0), (60, 12)),
                    call(APART, (97, -60)), call(PRIME, (97, -60)), [KIND, 1], [KIND, 9], call(APART, (0, 0)),
                    [SIZE, 65], [SIZE, 1001], call(FORM, (-97, 60)), call(ALIKE, (100, 99), (-100, 3), (4, 8)),
                    call(POW, (97, -60), (99, 100)) + [MOST], call(FEW, (-96, 60)), call(NORM, (97, -60))):
            alone = answers(one)
            self.assertEqual(answers(one * 30), alone * 30)

    def test_thirty_calls_each_in_its_own_kind(self):
        line = []
        wanted = []
        for k in range(15):
            one = call((PRIME, APART, FORM, FEW, NORM)[k // 2 % 5], (k + 2, -k))
            line += [KIND, k % 2] + one
            wanted += [[(4, 6)[k % 2]]] + ask(k % 2, one)
        self.assertEqual(ask_raw(line), wanted)

    def test_a_call_is_answered_as_if_alone(self):
        calls = [call(DIVIDE, (9, -4), (2, 5)), call(DIVIDE, (9, -4), (0, 0)), call(PRIME, (7, 0)),
                 call(APART, (30, 12)), [COMMON, 0, 0, 0, 201], call(COMMON, (30, 12), (9, 3)), call(TIMES, (1, 2), (3, 4)),
                 [SIZE, 49], call(POW, (5, 2), (0, 0)) + [2], call(POW, (5, 2), (8, 3)) + [77], [SIZE, 1001],
                 call(FEW, (30, 12)), call(FORM, (-30, 12)), call(ALIKE, (8, 1), (1, 1), (3, 1)), call(NORM, (-30, 12))]
        for order in (calls, calls[::-1], calls[3:] + calls[:3], calls[::2] + calls[1::2]):
            for kind in (0, 1):
                alone = [ask(kind, one)[0] for one in order]
                self.assertEqual(ask(kind, *order), alone)


class HandedIn(unittest.TestCase):
    def test_the_list_is_as_it_was(self):
        for line, told in LINES:
            handed = list(line)
            answers(handed)
            self.assertEqual(handed, line)

    def test_the_list_is_not_changed_for_a_while(self):
        for line, told in LINES:
            self.assertEqual(answers(Unchanging(line)), told)

    def test_the_same_list_twice(self):
        for line, told in LINES:
            handed = list(line)
            once = answers(handed)
            again = answers(handed)
            self.assertEqual(once, again)
            self.assertIsNot(once, again)

    def test_the_kind_is_not_kept(self):
        probe = call(TIMES, (0, 1), (0, 1))
        before = answers(probe)
        answers([KIND, 1] + probe)
        self.assertEqual(answers(probe), before)
        self.assertEqual(before, [3, 0, -1, 0])

    def test_what_is_given_back_may_be_changed(self):
        for line, told in LINES:
            once = answers(line)
            once.clear()
            self.assertEqual(answers(line), told)


class GivenBack(unittest.TestCase):
    def test_a_list_of_whole_numbers(self):
        for line, told in LINES:
            given = answers(line)
            self.assertIs(type(given), list)
            for z in given:
                self.assertIs(type(z), int)

    def test_nothing_is_printed(self):
        out, err = io.StringIO(), io.StringIO()
        with contextlib.redirect_stdout(out), contextlib.redirect_stderr(err):
            for line, told in LINES:
                answers(line)
        self.assertEqual(out.getvalue() + err.getvalue(), "")

    def test_nothing_is_read_or_imported(self):
        refuse = mock.Mock(side_effect=AssertionError("something is read or imported"))
        with mock.patch("builtins.open", refuse), mock.patch("builtins.input", refuse), mock.patch("sys.stdin", None):
            with mock.patch("builtins.__import__", refuse):
                given = [answers(line) for line, told in LINES]
        self.assertEqual(given, [told for line, told in LINES])

    def test_little_is_nested(self):
        lines = [line for line, told in LINES] + [(call(POW, (97, -60), (99, 100)) + [MOST]) * 30, [SIZE, 1000] * 30]
        before = [answers(line) for line in lines]
        limit = sys.getrecursionlimit()
        sys.setrecursionlimit(len(inspect.stack(0)) + 60)
        try:
            given = [answers(line) for line in lines]
        finally:
            sys.setrecursionlimit(limit)
        self.assertEqual(given, before)


if __name__ == "__main__":
    unittest.main()
