import unittest

from tests.helper import FORM, KINDS, NORM, SOME, ask, ask_one, call, first, grid, norm, product, units

NUMBERS = SOME + grid(-12, 12) + grid(-100, 100, 10) + grid(-99, 99, 11)
NUMBERS += [(x, y) for x in (-100, 100) for y in range(-100, 101)]
NUMBERS += [(x, y) for x in range(-100, 101) for y in (-100, 100)]


class Form(unittest.TestCase):
    def expect(self, kind, a, told):
        self.assertEqual(ask_one(kind, FORM, a), [0, *told], (kind, a))

    def test_0_has_the_form_0(self):
        for kind in KINDS:
            self.expect(kind, (0, 0), (0, 0))

    def test_units_have_the_form_1(self):
        for kind in KINDS:
            for u in units(kind):
                self.expect(kind, u, (1, 0))

    def test_each_part_of_the_plane_in_kind_0(self):
        for a in ((3, 2), (-2, 3), (-3, -2), (2, -3)):
            self.expect(0, a, (3, 2))
        for a in ((5, 0), (0, 5), (-5, 0), (0, -5)):
            self.expect(0, a, (5, 0))
        for a in ((4, 4), (-4, 4), (-4, -4), (4, -4)):
            self.expect(0, a, (4, 4))

    def test_each_part_of_the_plane_in_kind_1(self):
        for a in ((3, 1), (2, 3), (-1, 2), (-3, -1), (-2, -3), (1, -2)):
            self.expect(1, a, (3, 1))
        for a in ((5, 0), (5, 5), (0, 5), (-5, 0), (-5, -5), (0, -5)):
            self.expect(1, a, (5, 0))
        for a in ((8, 4), (4, 8), (-4, 4), (-8, -4), (-4, -8), (4, -4)):
            self.expect(1, a, (8, 4))

    def test_at_the_edges(self):
        for a in ((100, 100), (-100, 100), (-100, -100), (100, -100)):
            self.expect(0, a, (100, 100))
        self.expect(0, (0, -100), (100, 0))
        self.expect(0, (-100, 99), (99, 100))
        self.expect(1, (100, 100), (100, 0))
        self.expect(1, (-100, -100), (100, 0))
        # Here the form lies beyond what may be handed in.
        self.expect(1, (100, -100), (200, 100))
        self.expect(1, (-100, 100), (200, 100))
        self.expect(1, (-100, 99), (199, 100))

    def test_the_one_of_its_kin_in_the_first_part(self):
        for kind in KINDS:
            for a, told in zip(NUMBERS, ask(kind, *[call(FORM, a) for a in NUMBERS]), strict=True):
                if a != (0, 0):
                    kin = [product(kind, a, u) for u in units(kind)]
                    self.assertEqual([told], [[0, *f] for f in kin if first(kind, f)], (kind, a))


class Norm(unittest.TestCase):
    def test_written_out(self):
        for kind, a, n in (
            (0, (3, 2), 13), (0, (-2, 3), 13), (0, (-3, -2), 13), (0, (2, -3), 13), (0, (0, -7), 49), (0, (7, 0), 49),
            (1, (3, 2), 7), (1, (-2, 3), 19), (1, (-3, -2), 7), (1, (2, -3), 19), (1, (0, -7), 49), (1, (7, 0), 49),
            (0, (100, 100), 20000), (0, (-100, 100), 20000), (0, (100, -100), 20000), (0, (-100, -100), 20000),
            (1, (100, 100), 10000), (1, (-100, 100), 30000), (1, (100, -100), 30000), (1, (-100, -100), 10000),
            (0, (-100, 0), 10000), (0, (0, 100), 10000), (1, (-100, 0), 10000), (1, (0, 100), 10000),
        ):
            self.assertEqual(ask_one(kind, NORM, a), [n], (kind, a))

    def test_0_and_the_units(self):
        for kind in KINDS:
            self.assertEqual(ask_one(kind, NORM, (0, 0)), [0])
            for u in units(kind):
                self.assertEqual(ask_one(kind, NORM, u), [1])

    def test_as_the_words_tell(self):
        for kind in KINDS:
            for a, told in zip(NUMBERS, ask(kind, *[call(NORM, a) for a in NUMBERS]), strict=True):
                self.assertEqual(told, [norm(kind, a)], (kind, a))


if __name__ == "__main__":
    unittest.main()
