import contextlib
import io
import unittest

from planenumbers.plane import answers
from tests.helper import APART, COMMON, DIVIDE, KIND, MOST, PRIME, TIMES, ask, ask_raw, call

MIXED = (
    call(PRIME, (5, 0)) + call(APART, (5, 0)) + [KIND, 1] + call(PRIME, (5, 0)) + call(APART, (5, 0))
    + call(DIVIDE, (1, 0), (0, 0)) + call(COMMON, (3, 0), (1, -1)) + [KIND, 7] + call(TIMES, (0, 1), (0, 1))
    + [TIMES, MOST, 0, 0, 0] + [KIND, 0] + call(DIVIDE, (7, 5), (2, 1)) + call(APART, (0, 0)) + call(APART, (0, 1))
)
MIXED_ANSWERS = [
    1, 0,
    10, 0, 0, -1, 2, 1, 2, 1, 2, 1, 1,
    1, 6,
    1, 1,
    7, 0, 1, 0, 1, 5, 0, 1,
    1, -6,
    3, 0, 2, 1,
    1, -1,
    3, 0, -1, -1,
    1, -1,
    1, 4,
    5, 0, 4, 1, 0, -1,
    1, -6,
    4, 0, 0, 1, 0,
]


class Unchanging(list):
    """A list that fails the test as soon as anything tries to change it, even for a while."""

    def refuse(self, *given, **named):
        raise AssertionError("the list that was handed in is changed")

    __setitem__ = __delitem__ = __iadd__ = __imul__ = refuse
    append = extend = insert = pop = remove = clear = sort = reverse = refuse


class Line(unittest.TestCase):
    def test_several_calls_with_the_kind_changed(self):
        self.assertEqual(answers(list(MIXED)), MIXED_ANSWERS)

    def test_one_call(self):
        self.assertEqual(answers([KIND, 0]), [1, 4])
        self.assertEqual(answers(call(PRIME, (3, 0))), [1, 1])
        self.assertEqual(answers(call(APART, (0, 0))), [1, -6])

    def test_what_is_answered_of_each(self):
        self.assertEqual(answers(call(TIMES, (2, 3), (4, 5))), [3, 0, -7, 22])
        self.assertEqual(answers(call(DIVIDE, (7, 5), (2, 1))), [5, 0, 4, 1, 0, -1])
        self.assertEqual(answers(call(COMMON, (5, 0), (3, 4))), [3, 0, 2, 1])
        self.assertEqual(answers(call(APART, (-6, 0))), [10, 0, 0, 1, 2, 1, 1, 2, 3, 0, 1])

    def test_thirty_calls(self):
        for one in (call(TIMES, (-100, 100), (99, -3)), call(DIVIDE, (100, 99), (-7, 3)), call(COMMON, (96, 0), (60, 12)),
                    call(APART, (97, -60)), call(PRIME, (97, -60)), [KIND, 1], [KIND, 9], call(APART, (0, 0))):
            alone = answers(one)
            self.assertEqual(answers(one * 30), alone * 30)

    def test_thirty_calls_each_in_its_own_kind(self):
        line = []
        wanted = []
        for k in range(15):
            one = call((PRIME, APART)[k // 2 % 2], (k + 2, -k))
            line += [KIND, k % 2] + one
            wanted += [[(4, 6)[k % 2]]] + ask(k % 2, one)
        self.assertEqual(ask_raw(line), wanted)

    def test_a_call_is_answered_as_if_alone(self):
        calls = [call(DIVIDE, (9, -4), (2, 5)), call(DIVIDE, (9, -4), (0, 0)), call(PRIME, (7, 0)),
                 call(APART, (30, 12)), [COMMON, 0, 0, 0, 201], call(COMMON, (30, 12), (9, 3)), call(TIMES, (1, 2), (3, 4))]
        for order in (calls, calls[::-1], calls[3:] + calls[:3], calls[::2] + calls[1::2]):
            for kind in (0, 1):
                alone = [ask(kind, one)[0] for one in order]
                self.assertEqual(ask(kind, *order), alone)


class HandedIn(unittest.TestCase):
    def test_the_list_is_as_it_was(self):
        handed = list(MIXED)
        answers(handed)
        self.assertEqual(handed, MIXED)

    def test_the_list_is_not_changed_for_a_while(self):
        self.assertEqual(answers(Unchanging(MIXED)), MIXED_ANSWERS)

    def test_the_same_list_twice(self):
        handed = list(MIXED)
        once = answers(handed)
        again = answers(handed)
        self.assertEqual(once, again)
        self.assertIsNot(once, again)

    def test_the_kind_is_not_kept(self):
        probe = call(TIMES, (0, 1), (0, 1))
        before = answers(probe)
        answers([KIND, 1] + probe)
        self.assertEqual(answers(probe), before)
        self.assertEqual(before, [3, 0, -1, 0])

    def test_what_is_given_back_may_be_changed(self):
        once = answers(MIXED)
        once.clear()
        self.assertEqual(answers(MIXED), MIXED_ANSWERS)


class GivenBack(unittest.TestCase):
    def test_a_list_of_whole_numbers(self):
        given = answers(MIXED)
        self.assertIs(type(given), list)
        for z in given:
            self.assertIs(type(z), int)

    def test_nothing_is_printed(self):
        out, err = io.StringIO(), io.StringIO()
        with contextlib.redirect_stdout(out), contextlib.redirect_stderr(err):
            answers(MIXED)
        self.assertEqual(out.getvalue() + err.getvalue(), "")


if __name__ == "__main__":
    unittest.main()
