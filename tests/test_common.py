import unittest

from tests.helper import COMMON, KINDS, SOME, ask, ask_one, call, divides, first, grid, norm, product, units

SMALL = grid(-7, 7, 2) + [(0, 0), (2, 0), (0, -4), (6, 0), (-6, 6), (4, 2)]


class Common(unittest.TestCase):
    def expect(self, kind, a, b, told):
        self.assertEqual(ask_one(kind, COMMON, a, b), [0, *told], (kind, a, b))

    def test_written_out(self):
        self.expect(0, (5, 0), (3, 4), (2, 1))
        self.expect(0, (5, 0), (3, -4), (1, 2))
        self.expect(0, (2, 0), (3, 1), (1, 1))
        self.expect(0, (-6, 0), (0, 9), (3, 0))
        self.expect(0, (3, 0), (5, 0), (1, 0))
        self.expect(1, (7, 0), (3, 1), (3, 1))
        self.expect(1, (7, 0), (3, 2), (3, 2))
        self.expect(1, (3, 0), (1, -1), (2, 1))
        self.expect(1, (-6, 0), (0, 9), (3, 0))
        self.expect(1, (3, 0), (5, 0), (1, 0))

    def test_at_the_edges(self):
        self.expect(0, (100, 100), (100, -100), (100, 100))
        self.expect(0, (-100, 0), (0, 100), (100, 0))
        self.expect(0, (100, 0), (99, 0), (1, 0))
        self.expect(1, (100, 100), (100, -100), (100, 0))
        self.expect(1, (-100, -100), (0, 100), (100, 0))
        self.expect(1, (-100, 0), (0, 99), (1, 0))

    def test_both_0(self):
        for kind in KINDS:
            self.expect(kind, (0, 0), (0, 0), (0, 0))

    def test_one_0_answers_the_form_of_the_other(self):
        for kind in KINDS:
            for a in SOME + grid(-3, 3):
                if a == (0, 0):
                    continue
                forms = [f for f in [product(kind, a, u) for u in units(kind)] if first(kind, f)]
                self.assertEqual(len(forms), 1)
                self.expect(kind, a, (0, 0), forms[0])
                self.expect(kind, (0, 0), a, forms[0])

    def test_with_a_unit_it_is_1(self):
        for kind in KINDS:
            for u in units(kind):
                for a in SOME:
                    self.expect(kind, u, a, (1, 0))
                    self.expect(kind, a, u, (1, 0))

    def test_it_divides_both_and_lies_in_the_first_part(self):
        pairs = [(a, b) for a in SOME + SMALL for b in SOME if (a, b) != ((0, 0), (0, 0))]
        for kind in KINDS:
            for (a, b), got in zip(pairs, ask(kind, *[call(COMMON, a, b) for a, b in pairs]), strict=True):
                g = tuple(got[1:])
                self.assertEqual((got[0], len(g)), (0, 2))
                self.assertTrue(first(kind, g), (kind, a, b, g))
                self.assertTrue(divides(kind, g, a) and divides(kind, g, b), (kind, a, b, g))

    def test_each_that_divides_both_divides_it(self):
        for kind in KINDS:
            # All that divide a number have at most its size, so none of them lies beyond these.
            reach = [d for d in grid(-16, 16) if first(kind, d)]
            of = {a: {d for d in reach if norm(kind, d) <= norm(kind, a) and divides(kind, d, a)}
                  for a in SMALL if a != (0, 0)}
            pairs = [(a, b) for a in of for b in of]
            for (a, b), got in zip(pairs, ask(kind, *[call(COMMON, a, b) for a, b in pairs]), strict=True):
                g = tuple(got[1:])
                both = of[a] & of[b]
                self.assertIn(g, both, (kind, a, b))
                for d in both:
                    self.assertTrue(divides(kind, d, g), (kind, a, b, d, g))


if __name__ == "__main__":
    unittest.main()
