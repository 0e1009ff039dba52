import unittest

from tests.helper import FEW, KINDS, SOME, ask, ask_one, call, divides, first, grid, norm, prime_by_size, product
from tests.helper import rest, units


def counted(kind, m):
    """One number of each lot that are alike for m, and of these how many have no common divisor but units with m."""
    n = norm(kind, m)
    # m divides its own size, so each number is alike to one whose parts are 0 or more and below that.
    lots = {rest(kind, a, m) for a in grid(0, n - 1)}
    assert len(lots) == n, (kind, m)
    shared = [d for d in grid(0, n) if first(kind, d) and 1 < norm(kind, d) <= n and divides(kind, d, m)]
    return sum(not any(divides(kind, d, a) for d in shared) for a in lots)


class Few(unittest.TestCase):
    def expect(self, kind, m, told):
        self.assertEqual(ask_one(kind, FEW, m), [told], (kind, m))

    def test_a_unit(self):
        for kind in KINDS:
            for m in units(kind):
                self.expect(kind, m, 1)

    def test_a_prime(self):
        self.expect(0, (1, 1), 1)
        self.expect(0, (3, 0), 8)
        self.expect(0, (2, -1), 4)
        self.expect(0, (0, -7), 48)
        self.expect(0, (99, 100), 19800)
        self.expect(1, (2, 1), 2)
        self.expect(1, (2, 0), 3)
        self.expect(1, (3, 1), 6)
        self.expect(1, (-5, 0), 24)
        self.expect(1, (-100, -99), 9900)
        for kind in KINDS:
            primes = [a for a in grid(-100, 100, 3) + SOME if prime_by_size(kind, a)]
            self.assertGreater(len(primes), 300)
            self.assertEqual(ask(kind, *[call(FEW, a) for a in primes]), [[norm(kind, a) - 1] for a in primes])

    def test_a_power_of_a_prime(self):
        self.expect(0, (2, 0), 2)
        self.expect(0, (2, 2), 4)
        self.expect(0, (-64, 0), 2048)
        self.expect(0, (9, 0), 72)
        self.expect(0, (81, 0), 5832)
        self.expect(0, (3, 4), 20)
        self.expect(0, (3, -4), 20)
        self.expect(1, (3, 0), 6)
        self.expect(1, (0, 81), 4374)
        self.expect(1, (4, 0), 12)
        self.expect(1, (64, 0), 3072)
        self.expect(1, (8, 5), 42)
        self.expect(1, (8, 3), 42)

    def test_a_product_of_different_primes(self):
        # Two primes of the same size, and then others too.
        self.expect(0, (5, 0), 16)
        self.expect(0, (65, 0), 2304)
        self.expect(0, (6, 0), 16)
        self.expect(0, (30, 0), 256)
        self.expect(1, (7, 0), 36)
        self.expect(1, (91, 0), 5184)
        self.expect(1, (6, 0), 18)
        self.expect(1, (30, 0), 432)

    def test_at_the_edges(self):
        self.expect(0, (100, 100), 6400)
        self.expect(0, (-100, 100), 6400)
        self.expect(0, (100, 0), 3200)
        self.expect(1, (100, 100), 7200)
        self.expect(1, (-100, -100), 7200)
        self.expect(1, (100, -100), 14400)
        self.expect(1, (0, -100), 7200)

    def test_by_counting(self):
        for kind in KINDS:
            # Times a unit m divides the same numbers, so each lot of these needs one count.
            counts = {m: counted(kind, m) for m in grid(0, 8) if first(kind, m) and norm(kind, m) <= 36}
            self.assertGreater(len(counts), 20)
            for m, wanted in counts.items():
                for u in units(kind):
                    self.expect(kind, product(kind, m, u), wanted)

    def test_by_what_is_known_of_sizes(self):
        numbers = [m for m in grid(-100, 100, 9) + SOME if m != (0, 0)]
        for kind in KINDS:
            primes = [p for p in grid(0, 200) if first(kind, p) and norm(kind, p) < 500 and prime_by_size(kind, p)]
            for m, got in zip(numbers, ask(kind, *[call(FEW, m) for m in numbers]), strict=True):
                wanted = left = norm(kind, m)
                for p in primes:
                    if divides(kind, p, m):
                        n = norm(kind, p)
                        wanted -= wanted // n
                        while left % n == 0:
                            left //= n
                # What is left holds only primes of a size of 500 or more, so one at the most, of just this size.
                if left > 1:
                    wanted -= wanted // left
                self.assertEqual(got, [wanted], (kind, m))


if __name__ == "__main__":
    unittest.main()
