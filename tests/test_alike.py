import unittest

from tests.helper import ALIKE, KINDS, SOME, ask, ask_one, call, divides, grid, product, units


class Alike(unittest.TestCase):
    def expect(self, kind, a, b, m, told):
        self.assertEqual(ask_one(kind, ALIKE, a, b, m), [told], (kind, a, b, m))

    def test_written_out(self):
        for kind in KINDS:
            self.expect(kind, (7, 5), (1, -1), (3, 0), 1)
            self.expect(kind, (7, 5), (1, 0), (3, 0), 0)
            self.expect(kind, (7, 5), (0, 5), (3, 0), 0)
            self.expect(kind, (1, 0), (-1, 0), (2, 0), 1)
        self.expect(0, (1, 0), (0, 1), (1, 1), 1)
        self.expect(0, (1, 0), (0, 0), (1, 1), 0)
        self.expect(0, (5, 0), (0, 0), (2, 1), 1)
        self.expect(0, (3, 0), (0, 0), (2, 1), 0)
        self.expect(1, (5, 0), (0, 0), (2, 1), 0)
        self.expect(1, (3, 0), (0, 0), (2, 1), 1)
        self.expect(1, (7, 0), (0, 0), (3, 1), 1)
        self.expect(0, (7, 0), (0, 0), (3, 1), 0)

    def test_equal_ones_are_alike_for_all(self):
        for kind in KINDS:
            for a in SOME:
                for m in SOME + units(kind):
                    self.expect(kind, a, a, m, 1)

    def test_for_a_unit_all_are_alike(self):
        for kind in KINDS:
            for m in units(kind):
                for a in SOME:
                    self.expect(kind, a, (2, -1), m, 1)

    def test_for_0_only_equal_ones_are(self):
        for kind in KINDS:
            for a in SOME:
                self.expect(kind, a, a, (0, 0), 1)
                self.expect(kind, a, (a[0], 50), (0, 0), 0)
                self.expect(kind, a, (50, a[1]), (0, 0), 0)
                self.expect(kind, (50, 51), a, (0, 0), 0)

    def test_a_less_b_lies_beyond_the_edges(self):
        for kind in KINDS:
            self.expect(kind, (100, 100), (-100, -100), (100, 0), 1)
            self.expect(kind, (100, -100), (-100, 100), (8, 0), 1)
            self.expect(kind, (-100, 0), (100, 0), (0, 25), 1)
            self.expect(kind, (-100, 0), (100, 0), (0, 99), 0)
            self.expect(kind, (0, -100), (0, 99), (3, 0), 0)
            self.expect(kind, (0, -100), (0, 98), (3, 0), 1)
        self.expect(0, (100, 100), (-100, -100), (100, -100), 1)
        self.expect(1, (100, 100), (-100, -100), (100, -100), 0)

    def test_those_that_differ_by_a_multiple(self):
        for kind in KINDS:
            for m in grid(-4, 4):
                for q in grid(-3, 3):
                    by = product(kind, m, q)
                    self.expect(kind, (5 + by[0], by[1] - 6), (5, -6), m, 1)

    def test_as_the_words_tell(self):
        threes = [(a, b, m) for a in grid(-3, 3, 2) for b in grid(-2, 2) for m in grid(-3, 3)]
        threes += [(a, b, m) for a in SOME for b in SOME[::2] for m in SOME + [(1, 1), (2, 1), (-3, 5)]]
        for kind in KINDS:
            told = ask(kind, *[call(ALIKE, a, b, m) for a, b, m in threes])
            alike = 0
            for (a, b, m), got in zip(threes, told, strict=True):
                wanted = divides(kind, m, (a[0] - b[0], a[1] - b[1]))
                alike += wanted
                self.assertEqual(got, [1 if wanted else 0], (kind, a, b, m))
            self.assertTrue(300 < alike < len(threes) - 300)


if __name__ == "__main__":
    unittest.main()
