"""Whole numbers of the plane: a number is the tuple (x, y), and a line is a list of calls about one kind."""

KIND = 0
TIMES = 1
DIVIDE = 2
COMMON = 3
APART = 4
PRIME = 5
SIZE = 6
FORM = 7
ALIKE = 8
POW = 9
FEW = 10
NORM = 11

# For each call, by its number: how many whole numbers stand behind it.
HANDED = (1, 4, 4, 4, 2, 2, 1, 2, 6, 5, 2, 2)

# For each kind: how many units there are, and the unit whose powers are all of them.
UNITS = (4, 6)
TURNS = ((0, 1), (1, 1))

EDGE = 100
GREATEST_SIZE = 1000
OUT_OF_RANGE = -1
IS_ZERO = -6

ZERO = (0, 0)
ONE = (1, 0)


def answers(calls):
    """For each call of the line: how many numbers are answered, then these."""
    given = []
    kind = 0
    at = 0
    while at < len(calls):
        call = calls[at]
        end = at + 1 + HANDED[call]
        handed = calls[at + 1:end]
        told = answer(kind, call, handed)
        if call == KIND and told[0] >= 0:
            kind = handed[0]
        given.append(len(told))
        given.extend(told)
        at = end
    return given


def answer(kind, call, handed):
    """What one call answers, or its refusal alone."""
    if call == KIND:
        return kind_answer(handed[0])
    if call == SIZE:
        return size_answer(kind, handed[0])
    numbers = numbers_of(handed)
    if not all_in_range(numbers):
        return [OUT_OF_RANGE]
    if call == ALIKE:
        return [1 if are_alike(kind, numbers[0], numbers[1], numbers[2]) else 0]
    if call == POW:
        return pow_answer(kind, numbers[0], numbers[1], handed[4])
    if len(numbers) == 1:
        return answer_of_one(kind, call, numbers[0])
    return answer_of_two(kind, call, numbers[0], numbers[1])


def answer_of_one(kind, call, a):
    if call == APART:
        return apart_answer(kind, a)
    if call == PRIME:
        return [1 if is_prime(kind, a) else 0]
    if call == FORM:
        return [0] + list(form(kind, a))
    if call == FEW:
        return few_answer(kind, a)
    return [size(kind, a)]


def answer_of_two(kind, call, a, b):
    if call == TIMES:
        return [0] + list(times(kind, a, b))
    if call == DIVIDE:
        return divide_answer(kind, a, b)
    return [0] + list(common(kind, a, b))


def kind_answer(k):
    if k > 1:
        return [OUT_OF_RANGE]
    return [UNITS[k]]


def divide_answer(kind, a, b):
    if b == ZERO:
        return [IS_ZERO]
    return [0] + list(quotient(kind, a, b)) + list(rest(kind, a, b))


def apart_answer(kind, a):
    if a == ZERO:
        return [IS_ZERO]
    taken = take_apart(kind, a)
    unit = taken[0]
    primes = taken[1]
    told = [0, unit[0], unit[1], len(primes)]
    for row in primes:
        told.extend(list(row))
    return told


def size_answer(kind, n):
    if n < 1 or n > GREATEST_SIZE:
        return [OUT_OF_RANGE]
    found = [a for a in first_part(kind, n) if size(kind, a) == n]
    told = [len(found)]
    for a in found:
        told.extend(list(a))
    return told


def pow_answer(kind, a, m, e):
    if m == ZERO:
        return [IS_ZERO]
    return [0] + list(power(kind, rest(kind, a, m), m, e))


def few_answer(kind, m):
    if m == ZERO:
        return [IS_ZERO]
    return [few(kind, m)]


def signed(handed):
    """The whole number that was handed over so: an even one is twice it, an odd one tells one below 0."""
    if handed % 2 == 0:
        return handed // 2
    return -((handed + 1) // 2)


def numbers_of(handed):
    """The plane's numbers, each of two; one left over behind them, as e is, belongs to none."""
    numbers = []
    for k in range(0, len(handed) - 1, 2):
        numbers.append((signed(handed[k]), signed(handed[k + 1])))
    return numbers


def all_in_range(numbers):
    for a in numbers:
        if abs(a[0]) > EDGE or abs(a[1]) > EDGE:
            return False
    return True


def times(kind, a, b):
    x = a[0] * b[0] - a[1] * b[1]
    y = a[0] * b[1] + a[1] * b[0]
    if kind == 1:
        y = y - a[1] * b[1]
    return (x, y)


def less(a, b):
    return (a[0] - b[0], a[1] - b[1])


def size(kind, a):
    squares = a[0] * a[0] + a[1] * a[1]
    if kind == 1:
        return squares - a[0] * a[1]
    return squares


def turned_about(kind, a):
    if kind == 1:
        return (a[0] - a[1], -a[1])
    return (a[0], -a[1])


def in_first_part(kind, a):
    if kind == 1:
        return 0 <= a[1] and a[1] < a[0]
    return a[0] > 0 and a[1] >= 0


def form(kind, a):
    if a == ZERO:
        return ZERO
    turned = a
    while not in_first_part(kind, turned):
        turned = times(kind, turned, TURNS[kind])
    return turned


def nearest(u, n):
    """u by n, rounded to the nearest whole number, a half up; n is above 0."""
    return (2 * u + n) // (2 * n)


def quotient(kind, a, b):
    n = size(kind, b)
    turned = times(kind, a, turned_about(kind, b))
    return (nearest(turned[0], n), nearest(turned[1], n))


def rest(kind, a, b):
    return less(a, times(kind, b, quotient(kind, a, b)))


def divides(kind, b, a):
    if b == ZERO:
        return a == ZERO
    return rest(kind, a, b) == ZERO


def are_alike(kind, a, b, m):
    return divides(kind, m, less(a, b))


def power(kind, a, m, e):
    """The rest of a's power e divided by m; e is halved each time, so no more than 33 are within one another."""
    if e == 0:
        return rest(kind, ONE, m)
    h = power(kind, rest(kind, times(kind, a, a), m), m, e // 2)
    if e % 2 == 0:
        return h
    return rest(kind, times(kind, a, h), m)


def common(kind, a, b):
    """The greatest common divisor; each rest is of a smaller size than the one before, so this ends."""
    first = a
    second = b
    while second != ZERO:
        left = rest(kind, first, second)
        first = second
        second = left
    return form(kind, first)


def first_part(kind, most):
    """The numbers in the first part of at most this size: the lower x first, of the same x the lower y."""
    # There 3xx is at most 4 times the size in either kind; and yy is at most the size, or y is below x.
    side = 1
    while 3 * side * side <= 4 * most:
        side = side + 1
    found = []
    for x in range(1, side):
        for y in range(side):
            if in_first_part(kind, (x, y)) and size(kind, (x, y)) <= most:
                found.append((x, y))
    return found


def small_divisors(kind, most):
    """The numbers in the first part that may divide: size above 1, its square at most this; in the order of primes."""
    root = 1
    while (root + 1) * (root + 1) <= most:
        root = root + 1
    ranked = [(size(kind, a), a[0], a[1]) for a in first_part(kind, root) if size(kind, a) > 1]
    return [(row[1], row[2]) for row in sorted(ranked)]


def take_apart(kind, a):
    """The unit, and the primes in their order, each as (x, y, how often); a isn't 0."""
    primes = []
    left = a
    for p in small_divisors(kind, size(kind, a)):
        often = 0
        # What divides here is a prime: all of smaller size has been taken out before.
        while divides(kind, p, left):
            left = quotient(kind, left, p)
            often = often + 1
        if often > 0:
            primes.append((p[0], p[1], often))
    last = form(kind, left)
    # Two primes that are no small divisors would be too great together, so what is left has one at the most.
    if size(kind, last) > 1:
        primes.append((last[0], last[1], 1))
    return (quotient(kind, left, last), primes)


def is_prime(kind, a):
    if size(kind, a) <= 1:
        return False
    for p in small_divisors(kind, size(kind, a)):
        if divides(kind, p, a):
            return False
    return True


def few(kind, m):
    """How many of the numbers, one of each lot that are alike for m, have no prime in common with m; m isn't 0."""
    # There are as many lots as m's size, and a prime of size n that divides m divides one in n of them.
    told = size(kind, m)
    for row in take_apart(kind, m)[1]:
        n = size(kind, (row[0], row[1]))
        told = told // n * (n - 1)
    return told
