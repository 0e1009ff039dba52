import unittest

from tests.helper import DIVIDE, KINDS, SOME, ask, ask_one, call, grid, norm, parted, product, rounded, units

PAIRS = [(a, b) for a in grid(-6, 6) for b in grid(-4, 4) if b != (0, 0)]
PAIRS += [(a, b) for a in SOME for b in SOME + [(1, 0), (2, 0), (0, 3), (-1, 2)] if b != (0, 0)]


class Divide(unittest.TestCase):
    def expect(self, kind, a, b, told):
        self.assertEqual(ask_one(kind, DIVIDE, a, b), [0, *told], (kind, a, b))

    def each(self):
        for kind in KINDS:
            told = ask(kind, *[call(DIVIDE, a, b) for a, b in PAIRS])
            for (a, b), got in zip(PAIRS, told, strict=True):
                self.assertEqual(len(got), 5)
                self.assertEqual(got[0], 0)
                yield kind, a, b, tuple(got[1:3]), tuple(got[3:5])

    def test_written_out(self):
        self.expect(0, (7, 5), (2, 1), (4, 1, 0, -1))
        self.expect(1, (7, 5), (2, 1), (4, 1, 0, 0))
        self.expect(0, (-7, 5), (2, -3), (-2, -1, 0, 1))
        self.expect(1, (-7, 5), (2, -3), (-3, -1, 2, 1))
        self.expect(0, (100, -100), (7, 3), (7, -17, 0, -2))
        self.expect(1, (100, -100), (7, 3), (3, -27, -2, -1))

    def test_0_is_divided(self):
        for kind in KINDS:
            self.expect(kind, (0, 0), (3, -2), (0, 0, 0, 0))

    def test_by_a_unit_nothing_is_left(self):
        for kind in KINDS:
            for b in units(kind):
                for a in SOME:
                    got = ask_one(kind, DIVIDE, a, b)
                    self.assertEqual(got[3:], [0, 0])
                    self.assertEqual(product(kind, b, tuple(got[1:3])), a)

    def test_a_half_goes_up(self):
        # By 2 each part of an odd number lies on a half: -3/2 is -1, -1/2 is 0, 1/2 is 1, 3/2 is 2.
        halves = {-99: -49, -3: -1, -1: 0, 1: 1, 3: 2, 99: 50}
        for kind in KINDS:
            for z, half in halves.items():
                self.expect(kind, (z, 0), (2, 0), (half, 0, -1, 0))
                self.expect(kind, (0, z), (2, 0), (0, half, 0, -1))
                for y, other in halves.items():
                    self.expect(kind, (z, y), (2, 0), (half, other, -1, -1))

    def test_a_half_with_b_below_0_or_aslant(self):
        for kind in KINDS:
            self.expect(kind, (1, 0), (-2, 0), (0, 0, 1, 0))
            self.expect(kind, (-1, 0), (-2, 0), (1, 0, 1, 0))
            self.expect(kind, (50, 0), (100, 0), (1, 0, -50, 0))
            self.expect(kind, (-50, 0), (100, 0), (0, 0, -50, 0))
        self.expect(0, (1, 0), (1, 1), (1, 0, 0, -1))
        self.expect(0, (1, 0), (1, -1), (1, 1, -1, 0))
        self.expect(0, (-1, 0), (1, 1), (0, 1, 0, -1))
        self.expect(0, (-1, 0), (1, -1), (0, 0, -1, 0))

    def test_beside_a_half(self):
        for kind in KINDS:
            self.expect(kind, (49, 0), (99, 0), (0, 0, 49, 0))
            self.expect(kind, (50, 0), (99, 0), (1, 0, -49, 0))
            self.expect(kind, (-49, 0), (99, 0), (0, 0, -49, 0))
            self.expect(kind, (-50, 0), (99, 0), (-1, 0, 49, 0))
            self.expect(kind, (0, 49), (99, 0), (0, 0, 0, 49))
            self.expect(kind, (0, -50), (99, 0), (0, -1, 0, 49))

    def test_quotient_is_the_nearest_with_a_half_up(self):
        on_a_half = 0
        for kind, a, b, quotient, rest in self.each():
            exact = parted(kind, a, b)
            on_a_half += any(z.denominator == 2 for z in exact)
            self.assertEqual(quotient, tuple(rounded(z) for z in exact), (kind, a, b))
        self.assertGreater(on_a_half, 100)

    def test_quotient_and_rest_give_a_again(self):
        for kind, a, b, quotient, rest in self.each():
            back = product(kind, b, quotient)
            self.assertEqual((back[0] + rest[0], back[1] + rest[1]), a, (kind, a, b))

    def test_rest_is_smaller_than_b(self):
        for kind, a, b, quotient, rest in self.each():
            self.assertLess(norm(kind, rest), norm(kind, b), (kind, a, b))


if __name__ == "__main__":
    unittest.main()
