import unittest

from tests.helper import KIND, MOST, TIMES, ask_raw, call

# w times itself is -1 in kind 0 and -1 less w in kind 1, so it tells the kind.
PROBE = call(TIMES, (0, 1), (0, 1))
IN_KIND = {0: [0, -1, 0], 1: [0, -1, -1]}


class Kind(unittest.TestCase):
    def test_how_many_units(self):
        self.assertEqual(ask_raw([KIND, 0]), [[4]])
        self.assertEqual(ask_raw([KIND, 1]), [[6]])

    def test_kind_is_0_at_the_beginning(self):
        self.assertEqual(ask_raw(PROBE), [IN_KIND[0]])

    def test_kind_holds_until_the_next(self):
        told = ask_raw([KIND, 1] + PROBE + PROBE + [KIND, 0] + PROBE + [KIND, 1] + PROBE)
        self.assertEqual(told, [[6], IN_KIND[1], IN_KIND[1], [4], IN_KIND[0], [6], IN_KIND[1]])

    def test_same_kind_again(self):
        self.assertEqual(ask_raw([KIND, 1, KIND, 1] + PROBE), [[6], [6], IN_KIND[1]])

    def test_above_1_is_refused_and_the_kind_stays(self):
        for k in (2, 3, 4, 5, 2147483648, MOST - 1, MOST):
            for kind in (0, 1):
                told = ask_raw([KIND, kind, KIND, k] + PROBE)
                self.assertEqual(told[1:], [[-1], IN_KIND[kind]], (k, kind))
            self.assertEqual(ask_raw([KIND, k] + PROBE), [[-1], IN_KIND[0]], k)


if __name__ == "__main__":
    unittest.main()
