import unittest

from tests.helper import KINDS, SOME, TIMES, ask, ask_one, call, grid, product, units


class Times(unittest.TestCase):
    def test_written_out(self):
        for kind, a, b, told in (
            (0, (2, 3), (4, 5), (-7, 22)),
            (1, (2, 3), (4, 5), (-7, 7)),
            (0, (-2, 3), (4, -5), (7, 22)),
            (1, (-2, 3), (4, -5), (7, 37)),
            (0, (0, 1), (0, 1), (-1, 0)),
            (1, (0, 1), (0, 1), (-1, -1)),
            (0, (100, 100), (100, 100), (0, 20000)),
            (1, (100, 100), (100, 100), (0, 10000)),
            (0, (-100, 100), (100, -100), (0, 20000)),
            (1, (-100, 100), (100, -100), (0, 30000)),
            (0, (-100, -100), (100, -100), (-20000, 0)),
            (1, (-100, -100), (100, -100), (-20000, -10000)),
        ):
            self.assertEqual(ask_one(kind, TIMES, a, b), [0, *told], (kind, a, b))

    def test_as_the_words_tell(self):
        pairs = [(a, b) for a in grid(-3, 3) for b in grid(-3, 3)] + [(a, b) for a in SOME for b in SOME]
        for kind in KINDS:
            told = ask(kind, *[call(TIMES, a, b) for a, b in pairs])
            for (a, b), got in zip(pairs, told, strict=True):
                self.assertEqual(got, [0, *product(kind, a, b)], (kind, a, b))

    def test_with_0_and_with_1(self):
        for kind in KINDS:
            for a in SOME:
                self.assertEqual(ask_one(kind, TIMES, a, (0, 0)), [0, 0, 0])
                self.assertEqual(ask_one(kind, TIMES, (1, 0), a), [0, *a])

    def test_units_times_units_are_units(self):
        for kind in KINDS:
            self.assertEqual(len(units(kind)), (4, 6)[kind])
            for a in units(kind):
                reached = {tuple(ask_one(kind, TIMES, a, b)[1:]) for b in units(kind)}
                self.assertEqual(reached, set(units(kind)))


if __name__ == "__main__":
    unittest.main()
