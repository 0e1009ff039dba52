import unittest

from tests.helper import ALIKE, APART, COMMON, DIVIDE, FEW, FORM, KIND, KINDS, MOST, NORM, POW, PRIME, SIZE, TIMES
from tests.helper import ask, ask_one, ask_raw, call, norm, rest

# How many parts of the plane's numbers each has, and what stands behind them.
PARTS = {TIMES: 4, DIVIDE: 4, COMMON: 4, APART: 2, PRIME: 2, FORM: 2, ALIKE: 6, POW: 4, FEW: 2, NORM: 2}
BEHIND = {number: [] for number in PARTS} | {POW: [5]}
# 201 is -101 and 202 is 101, handed over; the last two are the greatest that may be handed in.
BEYOND = (201, 202, 203, 1000, 65536, 2147483647, 2147483648, MOST - 1, MOST)
# -100 and 100, handed over.
EDGE = (199, 200)


class OutOfRange(unittest.TestCase):
    def test_each_part_beyond_either_edge(self):
        for kind in KINDS:
            for number, parts in PARTS.items():
                for at in range(parts):
                    for z in BEYOND:
                        handed = [6] * parts
                        handed[at] = z
                        self.assertEqual(ask(kind, [number] + handed + BEHIND[number]), [[-1]], (kind, number, handed))

    def test_all_parts_beyond(self):
        for kind in KINDS:
            for number, parts in PARTS.items():
                self.assertEqual(ask(kind, [number] + [MOST] * parts + BEHIND[number]), [[-1]])

    def test_the_edges_are_within(self):
        for kind in KINDS:
            for number, parts in PARTS.items():
                for at in range(parts):
                    for z in EDGE:
                        handed = [6] * parts
                        handed[at] = z
                        told = ask(kind, [number] + handed + BEHIND[number])[0]
                        self.assertGreaterEqual(told[0], 0, (kind, number, handed))

    def test_e_may_be_any(self):
        for kind in KINDS:
            for e in (0,) + EDGE + BEYOND:
                self.assertEqual(ask(kind, call(POW, (1, 0), (7, 0)) + [e]), [[0, 1, 0]], (kind, e))

    def test_how_numbers_are_handed_over_to_later_calls(self):
        for handed, z in ((0, 0), (1, -1), (2, 1), (3, -2), (4, 2), (199, -100), (200, 100)):
            for kind in KINDS:
                self.assertEqual(ask(kind, [NORM, handed, 6]), [[norm(kind, (z, 3))]])
                self.assertEqual(ask(kind, [NORM, 6, handed]), [[norm(kind, (3, z))]])
                self.assertEqual(ask(kind, [POW, 10, 4, handed, 6, 1]), [[0, *rest(kind, (5, 2), (z, 3))]])
                self.assertEqual(ask(kind, [POW, 10, 4, 6, handed, 1]), [[0, *rest(kind, (5, 2), (3, z))]])
                self.assertEqual(ask(kind, [ALIKE, 0, 0, 0, 6, handed, 6]), [[1 if z == 0 else 0]])

    def test_how_numbers_are_handed_over(self):
        for handed, z in ((0, 0), (1, -1), (2, 1), (3, -2), (4, 2), (199, -100), (200, 100)):
            for kind in KINDS:
                self.assertEqual(ask(kind, [TIMES, handed, 0, 2, 0]), [[0, z, 0]])
                self.assertEqual(ask(kind, [TIMES, 0, handed, 2, 0]), [[0, 0, z]])
                self.assertEqual(ask(kind, [TIMES, 2, 0, handed, 0]), [[0, z, 0]])
                self.assertEqual(ask(kind, [TIMES, 2, 0, 0, handed]), [[0, 0, z]])


class Zero(unittest.TestCase):
    def test_divide_by_0(self):
        for kind in KINDS:
            for a in ((0, 0), (1, 0), (-100, 100)):
                self.assertEqual(ask_one(kind, DIVIDE, a, (0, 0)), [-6])

    def test_b_with_one_part_0_is_not_0(self):
        for kind in KINDS:
            for b in ((0, 1), (1, 0), (0, -100), (-100, 0)):
                self.assertEqual(ask_one(kind, DIVIDE, (0, 0), b), [0, 0, 0, 0, 0])

    def test_apart_of_0(self):
        for kind in KINDS:
            self.assertEqual(ask_one(kind, APART, (0, 0)), [-6])

    def test_pow_and_few_with_m_0(self):
        for kind in KINDS:
            self.assertEqual(ask_one(kind, FEW, (0, 0)), [-6])
            for a in ((0, 0), (1, 0), (-100, 100)):
                for e in (0, 1, 2, MOST):
                    self.assertEqual(ask(kind, call(POW, a, (0, 0)) + [e]), [[-6]])

    def test_m_with_one_part_0_is_not_0(self):
        for kind in KINDS:
            for m in ((0, 1), (1, 0), (0, -100), (-100, 0)):
                self.assertGreater(ask_one(kind, FEW, m)[0], 0)
                self.assertEqual(ask(kind, call(POW, (0, 0), m) + [3]), [[0, 0, 0]])

    def test_others_take_0(self):
        for kind in KINDS:
            self.assertEqual(ask_one(kind, TIMES, (0, 0), (0, 0)), [0, 0, 0])
            self.assertEqual(ask_one(kind, COMMON, (0, 0), (0, 0)), [0, 0, 0])
            self.assertEqual(ask_one(kind, PRIME, (0, 0)), [0])
            self.assertEqual(ask_one(kind, FORM, (0, 0)), [0, 0, 0])
            self.assertEqual(ask_one(kind, NORM, (0, 0)), [0])
            self.assertEqual(ask_one(kind, ALIKE, (0, 0), (0, 0), (0, 0)), [1])
            self.assertEqual(ask(kind, call(POW, (0, 0), (3, 0)) + [0]), [[0, 1, 0]])


class Several(unittest.TestCase):
    def test_the_one_told_first(self):
        for kind in KINDS:
            for z in BEYOND:
                self.assertEqual(ask(kind, [DIVIDE, z, 0, 0, 0]), [[-1]])
                self.assertEqual(ask(kind, [DIVIDE, 0, z, 0, 0]), [[-1]])
                for e in (0, 1, MOST):
                    self.assertEqual(ask(kind, [POW, z, 0, 0, 0, e]), [[-1]])
                    self.assertEqual(ask(kind, [POW, 0, z, 0, 0, e]), [[-1]])

    def test_all_is_as_it_was(self):
        probe = call(TIMES, (0, 1), (0, 1))
        refused = [DIVIDE, 2, 2, 0, 0] + [APART, 0, 0] + [PRIME, 201, 0] + [KIND, 2]
        refused += [POW, 2, 2, 0, 0, 1] + [FEW, 0, 0] + [SIZE, 0] + [SIZE, 1001] + [ALIKE, 0, 0, 0, 0, 0, 202]
        told = ask_raw([KIND, 1] + refused + probe + [KIND, 0] + refused + probe)
        refusals = [[-6], [-6], [-1], [-1], [-6], [-6], [-1], [-1], [-1]]
        self.assertEqual(told, [[6], *refusals, [0, -1, -1], [4], *refusals, [0, -1, 0]])


if __name__ == "__main__":
    unittest.main()
