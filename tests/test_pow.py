import unittest

from tests.helper import KINDS, MOST, POW, SOME, ask, call, divides, grid, parted, product, rest, units

SMALL = [m for m in grid(-3, 3) if m != (0, 0)]
GREAT = [m for m in SOME if m != (0, 0)]


def as_told(kind, a, m, e):
    """The words themselves, with the rests of the tests."""
    if e == 0:
        return rest(kind, (1, 0), m)
    h = as_told(kind, rest(kind, product(kind, a, a), m), m, e // 2)
    return h if e % 2 == 0 else rest(kind, product(kind, a, h), m)


def by_going_round(kind, a, m, e):
    """The rests of a's powers one by one, until one comes again; from there they go round."""
    seen = {}
    order = []
    now = rest(kind, (1, 0), m)
    while now not in seen and len(order) <= e:
        seen[now] = len(order)
        order.append(now)
        now = rest(kind, product(kind, a, now), m)
    if e < len(order):
        return order[e]
    start = seen[now]
    return order[start + (e - start) % (len(order) - start)]


class Pow(unittest.TestCase):
    def expect(self, kind, a, m, e, told):
        self.assertEqual(ask(kind, call(POW, a, m) + [e]), [[0, *told]], (kind, a, m, e))

    def hold(self, asked, way):
        for kind in KINDS:
            told = ask(kind, *[call(POW, a, m) + [e] for a, m, e in asked])
            for (a, m, e), got in zip(asked, told, strict=True):
                self.assertEqual(got, [0, *way(kind, a, m, e)], (kind, a, m, e))

    def test_written_out(self):
        self.expect(0, (1, 1), (7, 0), 2, (0, 2))
        self.expect(0, (1, 1), (7, 0), 3, (-2, 2))
        self.expect(0, (2, 1), (7, 0), 2, (3, -3))
        self.expect(0, (2, 1), (3, 0), 8, (1, 0))
        self.expect(0, (0, 1), (100, 0), MOST, (0, -1))
        self.expect(1, (1, 1), (7, 0), 2, (0, 1))
        self.expect(1, (1, 1), (7, 0), 3, (-1, 0))
        self.expect(1, (2, 1), (7, 0), 2, (3, 3))
        self.expect(1, (2, 1), (5, 0), 24, (1, 0))
        self.expect(1, (0, 1), (100, 0), MOST, (1, 0))

    def test_e_is_handed_in_as_it_is(self):
        # Were e handed over as the plane's numbers are, 3 would be -2 and 4 would be 2.
        for kind in KINDS:
            for e, x in ((0, 1), (1, 2), (2, 4), (3, 8), (4, 16), (5, 32)):
                self.expect(kind, (2, 0), (100, 0), e, (x, 0))

    def test_the_power_0(self):
        for kind in KINDS:
            for a in ((0, 0), (3, 0), (-100, 100)):
                self.expect(kind, a, (3, 0), 0, (1, 0))
                self.expect(kind, a, (100, -100), 0, (1, 0))
                # 1 by 2 lies on a half.
                self.expect(kind, a, (2, 0), 0, (-1, 0))
                self.expect(kind, a, (-2, 0), 0, (1, 0))
        self.expect(0, (5, 7), (1, 1), 0, (0, -1))
        self.expect(0, (5, 7), (1, -1), 0, (-1, 0))

    def test_the_power_1_is_the_rest(self):
        for kind in KINDS:
            for a in SOME:
                for m in GREAT[::2] + SMALL[::3]:
                    self.expect(kind, a, m, 1, rest(kind, a, m))

    def test_m_a_unit(self):
        for kind in KINDS:
            for m in units(kind):
                for a in ((0, 0), (1, 0), (5, -7), (-100, 100)):
                    for e in (0, 1, 2, 3, MOST):
                        self.expect(kind, a, m, e, (0, 0))

    def test_a_0(self):
        for kind in KINDS:
            for e in (1, 2, 3, 4, MOST - 1, MOST):
                self.expect(kind, (0, 0), (3, 0), e, (0, 0))
                self.expect(kind, (0, 0), (-100, 100), e, (0, 0))

    def test_a_that_m_divides(self):
        for kind in KINDS:
            for m in SMALL:
                for q in ((1, 0), (3, -2), (-5, 6)):
                    for e in (1, 2, 7, MOST - 1, MOST):
                        self.expect(kind, product(kind, m, q), m, e, (0, 0))

    def test_a_power_that_m_divides(self):
        for kind in KINDS:
            self.expect(kind, (2, 0), (8, 0), 2, (-4, 0))
            self.expect(kind, (2, 0), (8, 0), 3, (0, 0))
            self.expect(kind, (2, 0), (8, 0), MOST, (0, 0))

    def test_a_rest_just_on_a_half(self):
        for kind in KINDS:
            for z in (-99, -3, -1, 1, 3, 99):
                self.expect(kind, (z, 0), (2, 0), 1, (-1, 0))
                self.expect(kind, (0, z), (2, 0), 1, (0, -1))
                self.expect(kind, (z, 0), (2, 0), MOST, (-1, 0))
            self.expect(kind, (50, 0), (100, 0), 1, (-50, 0))
            self.expect(kind, (-50, 0), (100, 0), 1, (-50, 0))
            self.expect(kind, (5, 0), (10, 0), 2, (-5, 0))
            self.expect(kind, (6, 0), (8, 0), 2, (-4, 0))
            self.expect(kind, (2, 0), (-8, 0), 2, (4, 0))
        self.expect(0, (0, 1), (1, 1), 1, (0, -1))
        self.expect(0, (0, 1), (1, 1), 3, (0, -1))
        self.expect(0, (3, 0), (1, -1), 5, (-1, 0))

    def test_by_multiplying_and_then_dividing_once(self):
        asked = [(a, m, e) for a in grid(-4, 4, 2) + [(3, -1), (-1, 2), (1, 0)] for m in SMALL[::2] for e in range(9)]
        asked += [(a, m, e) for a in SOME for m in GREAT[::3] for e in (2, 3, 12, 13)]

        def whole_power(kind, a, m, e):
            whole = (1, 0)
            for k in range(e):
                whole = product(kind, whole, a)
            return rest(kind, whole, m)

        self.hold(asked, whole_power)

    def test_great_powers_by_going_round(self):
        powers = (100, 101, 65535, 65536, 2147483647, 2147483648, MOST - 1, MOST)
        asked = [(a, m, e) for a in grid(-3, 3, 3) + [(1, 1), (2, 1), (-99, 100)] for m in SMALL[::3] for e in powers]
        asked += [((-99, 100), (7, 3), e) for e in powers] + [((6, 5), (-8, 4), e) for e in powers]
        self.hold(asked, by_going_round)

    def test_as_told(self):
        asked = [(a, m, e) for a in SOME for m in GREAT for e in (6, 1000003, MOST - 1, MOST)]
        self.hold(asked, as_told)

    def test_what_is_told_is_a_rest(self):
        for kind in KINDS:
            asked = [(a, m, e) for a in SOME[::2] for m in GREAT for e in (0, 1, 5, 64, MOST)]
            for (a, m, e), got in zip(asked, ask(kind, *[call(POW, a, m) + [e] for a, m, e in asked]), strict=True):
                for z in parted(kind, tuple(got[1:]), m):
                    self.assertTrue(-1 <= 2 * z < 1, (kind, a, m, e, got))
                if e == 1:
                    self.assertTrue(divides(kind, m, (a[0] - got[1], a[1] - got[2])), (kind, a, m))


if __name__ == "__main__":
    unittest.main()
