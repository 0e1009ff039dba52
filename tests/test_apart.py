import unittest

from tests.helper import APART, KINDS, SOME, ask, ask_one, call, first, grid, line_prime, norm, prime_by_size, product
from tests.helper import stays, units

NUMBERS = [a for a in SOME + grid(-14, 14) + grid(-100, 100, 8) + grid(-99, 99, 11) if a != (0, 0)]


def rows_of(told):
    return [tuple(told[k:k + 3]) for k in range(4, len(told), 3)]


class Apart(unittest.TestCase):
    def expect(self, kind, a, told):
        self.assertEqual(ask_one(kind, APART, a), [0, *told], (kind, a))

    def each(self):
        for kind in KINDS:
            for a, told in zip(NUMBERS, ask(kind, *[call(APART, a) for a in NUMBERS]), strict=True):
                self.assertEqual(told[0], 0)
                self.assertEqual(len(told), 4 + 3 * told[3], (kind, a))
                yield kind, a, tuple(told[1:3]), rows_of(told)

    def test_written_out_in_kind_0(self):
        self.expect(0, (2, 0), (0, -1, 1, 1, 1, 2))
        self.expect(0, (3, 0), (1, 0, 1, 3, 0, 1))
        self.expect(0, (5, 0), (0, -1, 2, 1, 2, 1, 2, 1, 1))
        self.expect(0, (-6, 0), (0, 1, 2, 1, 1, 2, 3, 0, 1))
        self.expect(0, (0, -7), (0, -1, 1, 7, 0, 1))
        self.expect(0, (65, 0), (-1, 0, 4, 1, 2, 1, 2, 1, 1, 2, 3, 1, 3, 2, 1))

    def test_written_out_in_kind_1(self):
        self.expect(1, (2, 0), (1, 0, 1, 2, 0, 1))
        self.expect(1, (3, 0), (0, -1, 1, 2, 1, 2))
        self.expect(1, (5, 0), (1, 0, 1, 5, 0, 1))
        self.expect(1, (-6, 0), (0, 1, 2, 2, 1, 2, 2, 0, 1))
        self.expect(1, (0, -7), (-1, -1, 2, 3, 1, 1, 3, 2, 1))
        self.expect(1, (91, 0), (-1, -1, 4, 3, 1, 1, 3, 2, 1, 4, 1, 1, 4, 3, 1))

    def test_at_the_edges(self):
        self.expect(0, (100, 100), (1, 0, 3, 1, 1, 5, 1, 2, 2, 2, 1, 2))
        self.expect(0, (100, -100), (0, -1, 3, 1, 1, 5, 1, 2, 2, 2, 1, 2))
        self.expect(0, (-100, 0), (-1, 0, 3, 1, 1, 4, 1, 2, 2, 2, 1, 2))
        self.expect(1, (100, 100), (1, 1, 2, 2, 0, 2, 5, 0, 2))
        self.expect(1, (-100, 100), (0, 1, 3, 2, 1, 1, 2, 0, 2, 5, 0, 2))
        self.expect(1, (100, -100), (0, -1, 3, 2, 1, 1, 2, 0, 2, 5, 0, 2))
        self.expect(0, (99, 100), (1, 0, 1, 99, 100, 1))
        self.expect(1, (99, 100), (1, 1, 1, 100, 1, 1))

    def test_units_have_no_primes(self):
        for kind in KINDS:
            for u in units(kind):
                self.expect(kind, u, (*u, 0))

    def test_the_unit_times_the_primes_is_a(self):
        for kind, a, unit, rows in self.each():
            self.assertEqual(norm(kind, unit), 1, (kind, a))
            back = unit
            for x, y, often in rows:
                for k in range(often):
                    back = product(kind, back, (x, y))
            self.assertEqual(back, a, kind)

    def test_each_told_is_a_prime_in_the_first_part(self):
        for kind, a, unit, rows in self.each():
            for x, y, often in rows:
                self.assertTrue(first(kind, (x, y)), (kind, a, x, y))
                self.assertTrue(prime_by_size(kind, (x, y)), (kind, a, x, y))
                self.assertGreaterEqual(often, 1)

    def test_they_are_in_order_and_each_told_once(self):
        same_size = 0
        for kind, a, unit, rows in self.each():
            order = [(norm(kind, (x, y)), x, y) for x, y, often in rows]
            self.assertEqual(order, sorted(set(order)), (kind, a))
            same_size += len({n for n, x, y in order}) < len(order)
        self.assertGreater(same_size, 10)

    def test_primes_of_the_line(self):
        for kind in KINDS:
            for q in [n for n in range(2, 101) if line_prime(n)]:
                rows = rows_of(ask_one(kind, APART, (q, 0)))
                if stays(kind, q):
                    self.assertEqual(rows, [(q, 0, 1)], kind)
                elif q == (2, 3)[kind]:
                    self.assertEqual(rows, [((1, 1, 2), (2, 1, 2))[kind]])
                else:
                    self.assertEqual([norm(kind, row[:2]) for row in rows], [q, q], (kind, q))
                    self.assertEqual([row[2] for row in rows], [1, 1], (kind, q))


if __name__ == "__main__":
    unittest.main()
