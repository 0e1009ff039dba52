"""What the tests share: how a line is written and read, and the document's words, worked out apart from the program."""

from fractions import Fraction
from math import floor

from planenumbers.plane import answers

KIND, TIMES, DIVIDE, COMMON, APART, PRIME, SIZE, FORM, ALIKE, POW, FEW, NORM = range(12)
MOST = 4294967295
KINDS = (0, 1)


def hand(z):
    return 2 * z if z >= 0 else 2 * -z - 1


def call(number, *parts):
    """A call with the plane's numbers, each a pair."""
    return [number] + [hand(z) for part in parts for z in part]


def ask_raw(calls):
    """The line's answers, one list for each call."""
    given = answers(calls)
    told = []
    at = 0
    while at < len(given):
        end = at + 1 + given[at]
        assert end <= len(given), given
        told.append(given[at + 1:end])
        at = end
    return told


def ask(kind, *calls):
    """What the calls answer in this kind, one list each; asked 29 a line."""
    told = []
    for start in range(0, len(calls), 29):
        line = [KIND, kind]
        for one in calls[start:start + 29]:
            line += one
        told += ask_raw(line)[1:]
    return told


def ask_one(kind, number, *parts):
    return ask(kind, call(number, *parts))[0]


def product(kind, a, b):
    (x, y), (u, v) = a, b
    if kind == 0:
        return (x * u - y * v, x * v + y * u)
    return (x * u - y * v, x * v + y * u - y * v)


def norm(kind, a):
    x, y = a
    return x * x + y * y if kind == 0 else x * x - x * y + y * y


def units(kind):
    near = range(-1, 2)
    return [(x, y) for x in near for y in near if norm(kind, (x, y)) == 1]


def first(kind, a):
    x, y = a
    return x > 0 and y >= 0 if kind == 0 else 0 <= y < x


def parted(kind, a, b):
    """a by b, as two fractions."""
    x, y = b
    about = (x, -y) if kind == 0 else (x - y, -y)
    return tuple(Fraction(z, norm(kind, b)) for z in product(kind, a, about))


def divides(kind, b, a):
    if b == (0, 0):
        return a == (0, 0)
    return all(z.denominator == 1 for z in parted(kind, a, b))


def rounded(z):
    return floor(z + Fraction(1, 2))


def rest(kind, a, b):
    back = product(kind, b, tuple(rounded(z) for z in parted(kind, a, b)))
    return (a[0] - back[0], a[1] - back[1])


def line_prime(n):
    return n > 1 and all(n % d for d in range(2, int(n ** 0.5) + 1))


def stays(kind, q):
    """Whether a prime of the line stays one in the plane: told by what it leaves."""
    return q % 4 == 3 if kind == 0 else q % 3 == 2


def prime_by_size(kind, a):
    """A prime by what is known of these: its size is a prime of the line, or the square of one that stays one."""
    n = norm(kind, a)
    root = int(n ** 0.5 + 0.5)
    if root * root == n:
        return line_prime(root) and stays(kind, root)
    return line_prime(n)


def grid(low, high, step=1):
    span = range(low, high + 1, step)
    return [(x, y) for x in span for y in span]


EDGES = [(x, y) for x in (-100, 0, 100) for y in (-100, 0, 100)]
SOME = EDGES + [(-100, 99), (99, -100), (1, 100), (-1, -100), (37, -58), (-64, 27), (-3, -4), (6, 0), (0, -7)]
