import unittest

from tests.helper import EDGES, KINDS, PRIME, SOME, ask, ask_one, call, first, grid, norm, prime_by_size, product, units


class Prime(unittest.TestCase):
    def primes_among(self, kind, numbers):
        told = ask(kind, *[call(PRIME, a) for a in numbers])
        for got in told:
            self.assertIn(got, ([0], [1]))
        return [a for a, got in zip(numbers, told, strict=True) if got == [1]]

    def test_written_out(self):
        line = [(n, 0) for n in range(-13, 14)]
        self.assertEqual([x for x, y in self.primes_among(0, line)], [-11, -7, -3, 3, 7, 11])
        self.assertEqual([x for x, y in self.primes_among(1, line)], [-11, -5, -2, 2, 5, 11])
        self.assertEqual(self.primes_among(0, [(1, 1), (-1, 2), (2, 2), (0, -3), (0, 5), (4, 3), (4, -1)]),
                         [(1, 1), (-1, 2), (0, -3), (4, -1)])
        self.assertEqual(self.primes_among(1, [(1, 1), (-1, 1), (2, 1), (3, 1), (0, -2), (-2, -2), (4, 2), (5, 1)]),
                         [(-1, 1), (2, 1), (3, 1), (0, -2), (-2, -2)])

    def test_0_and_the_units_are_none(self):
        for kind in KINDS:
            self.assertEqual(self.primes_among(kind, [(0, 0)] + units(kind)), [])

    def test_at_the_edges(self):
        for kind in KINDS:
            self.assertEqual(self.primes_among(kind, EDGES), [])
        self.assertEqual(ask_one(0, PRIME, (99, 100)), [1])
        self.assertEqual(ask_one(0, PRIME, (-100, 99)), [1])
        self.assertEqual(ask_one(1, PRIME, (100, 99)), [1])
        self.assertEqual(ask_one(1, PRIME, (-100, -99)), [1])

    def test_by_the_word_itself(self):
        # A number that is a product of two, neither of them a unit, is that of two in the first part times a unit,
        # and both have at most half its size.
        numbers = [a for a in grid(-9, 9) if a != (0, 0)]
        for kind in KINDS:
            most = max(norm(kind, a) for a in numbers)
            parts = [p for p in grid(0, 16) if first(kind, p) and 1 < norm(kind, p) <= most // 2]
            products = set()
            for p in parts:
                for q in parts:
                    if norm(kind, p) * norm(kind, q) <= most:
                        products |= {product(kind, u, product(kind, p, q)) for u in units(kind)}
            wanted = [a for a in numbers if norm(kind, a) > 1 and a not in products]
            self.assertEqual(self.primes_among(kind, numbers), wanted)

    def test_by_what_is_known_of_sizes(self):
        numbers = SOME + grid(-100, 100, 7) + grid(-99, 99, 6) + [(x, 0) for x in range(-100, 101)]
        numbers += [(x, 100) for x in range(-100, 101)] + [(-100, y) for y in range(-100, 101)]
        for kind in KINDS:
            wanted = [a for a in numbers if prime_by_size(kind, a)]
            self.assertEqual(self.primes_among(kind, numbers), wanted)


if __name__ == "__main__":
    unittest.main()
