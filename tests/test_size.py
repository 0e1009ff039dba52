import unittest

from tests.helper import KINDS, MOST, SIZE, ask, ask_raw, first, grid, line_prime, norm, stays

ALL = range(1, 1001)


def pairs_of(told):
    return [tuple(told[k:k + 2]) for k in range(1, len(told), 2)]


class Size(unittest.TestCase):
    def expect(self, kind, n, *pairs):
        wanted = [len(pairs)] + [z for pair in pairs for z in pair]
        self.assertEqual(ask(kind, [SIZE, n]), [wanted], (kind, n))

    def each(self):
        for kind in KINDS:
            for n, told in zip(ALL, ask(kind, *[[SIZE, n] for n in ALL]), strict=True):
                self.assertEqual(len(told), 1 + 2 * told[0], (kind, n))
                yield kind, n, pairs_of(told)

    def test_written_out_in_kind_0(self):
        self.expect(0, 1, (1, 0))
        self.expect(0, 2, (1, 1))
        self.expect(0, 3)
        self.expect(0, 4, (2, 0))
        self.expect(0, 5, (1, 2), (2, 1))
        self.expect(0, 25, (3, 4), (4, 3), (5, 0))
        self.expect(0, 65, (1, 8), (4, 7), (7, 4), (8, 1))
        self.expect(0, 961, (31, 0))
        self.expect(0, 999)
        self.expect(0, 1000, (10, 30), (18, 26), (26, 18), (30, 10))

    def test_written_out_in_kind_1(self):
        self.expect(1, 1, (1, 0))
        self.expect(1, 2)
        self.expect(1, 3, (2, 1))
        self.expect(1, 4, (2, 0))
        self.expect(1, 7, (3, 1), (3, 2))
        self.expect(1, 49, (7, 0), (8, 3), (8, 5))
        self.expect(1, 91, (10, 1), (10, 9), (11, 5), (11, 6))
        self.expect(1, 972, (36, 18))
        self.expect(1, 999, (33, 3), (33, 30))
        self.expect(1, 1000)

    def test_the_kind_at_the_beginning(self):
        self.assertEqual(ask_raw([SIZE, 2, SIZE, 3]), [[1, 1, 1], [0]])

    def test_those_that_have_the_size_in_order(self):
        for kind in KINDS:
            # 3 times 40 times 40 is above 4 times 1000, so in either kind none in the first part lies beyond.
            of = {n: [] for n in ALL}
            for a in grid(-40, 40):
                if first(kind, a) and norm(kind, a) in of:
                    of[norm(kind, a)].append(a)
            for n, told in zip(ALL, ask(kind, *[[SIZE, n] for n in ALL]), strict=True):
                self.assertEqual(told, [len(of[n])] + [z for a in sorted(of[n]) for z in a], (kind, n))

    def test_how_many_by_the_primes_of_the_line(self):
        for kind, n, pairs in self.each():
            wanted = 1
            for q in [q for q in range(2, n + 1) if n % q == 0 and line_prime(q)]:
                often = 0
                while n % q ** (often + 1) == 0:
                    often += 1
                if stays(kind, q):
                    wanted *= 1 - often % 2
                elif q != (2, 3)[kind]:
                    wanted *= often + 1
            self.assertEqual(len(pairs), wanted, (kind, n))

    def test_the_edges_of_n(self):
        for kind in KINDS:
            for n in (0, 1001, 1002, 1024, 2000, 65536, 2147483648, MOST - 1, MOST):
                self.assertEqual(ask(kind, [SIZE, n]), [[-1]], (kind, n))
            for n in (1, 1000):
                self.assertGreaterEqual(ask(kind, [SIZE, n])[0][0], 0)


if __name__ == "__main__":
    unittest.main()
