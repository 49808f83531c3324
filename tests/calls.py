"""What the tests share: calls written as lists, answers taken apart, and numbers to try."""

import unittest

from oddmodulus.registers import answers

WORD = 2 ** 64
GREATEST = 2 ** 4096 - 1
REGISTERS = range(8)
NOT_REGISTERS = (-1, 8, 9, -8, -2147483648, 2147483647)


def words(number, n):
    if not 0 <= number < WORD ** n:
        raise ValueError(f"{number} is not a number of {n} words")
    return [number // WORD ** place % WORD for place in range(n)]


def begin(m, n):
    return [0, n] + words(m, n)


def put(r, x, n):
    return [1, r, n] + words(x, n)


def get(r, n):
    return [2, r, n]


def sum_of(d, a, b):
    return [3, d, a, b]


def difference(d, a, b):
    return [4, d, a, b]


def product(d, a, b):
    return [5, d, a, b]


def half(d, a):
    return [6, d, a]


def doubled(d, a, times):
    return [7, d, a, times]


def power(d, a, e):
    return [8, d, a, len(e)] + list(e)


def order(a, b):
    return [10, a, b]


def wide(a, b, n):
    return [11, n] + words(a, n) + [n] + words(b, n)


def shifted(a, n, by):
    return [12, by, n] + words(a, n)


# Each call beside what Python's own whole numbers say of it.
ARITHMETIC = (
    (sum_of, lambda a, b: a + b),
    (difference, lambda a, b: a - b),
    (product, lambda a, b: a * b),
)


def number_of_bytes(e):
    return sum(byte * 256 ** place for place, byte in enumerate(e))


def meant_half(a, m):
    """The one number below m whose double is a modulo m."""
    return a * pow(2, -1, m) % m


def meant_order(a, b):
    if a == b:
        return 0
    return -1 if a < b else 1


def meant_shift(a, n, by):
    # Past all the bits nothing is left; a far greater shift would fill the memory.
    if abs(by) >= 64 * n:
        return 0
    if by < 0:
        return a // 2 ** -by
    return a * 2 ** by % WORD ** n


def get_all(n):
    return [get(r, n) for r in REGISTERS]


def got(number, n):
    return [0] + words(number, n)


def ask(*calls):
    """The answers of the calls, a list for each, with the counts in front of them checked."""
    flat = [number for call in calls for number in call]
    answered = answers(flat)
    parts = []
    place = 0
    while place < len(answered):
        count = answered[place]
        part = answered[place + 1:place + 1 + count]
        if count < 1 or len(part) != count:
            raise AssertionError(f"a count of {count} does not fit its answer")
        parts.append(part)
        place += 1 + count
    if len(parts) != len(calls):
        raise AssertionError(f"{len(calls)} calls were answered {len(parts)} times")
    return parts


class Numbers:
    """Numbers that look mixed but are the same in every run."""

    def __init__(self, seed):
        self.state = seed

    def word(self):
        self.state = (self.state * 6364136223846793005 + 1442695040888963407) % 2 ** 64
        return self.state >> 32

    def below(self, limit):
        number = 0
        for _ in range(limit.bit_length() // 32 + 2):
            number = number << 32 | self.word()
        return number % limit

    def pick(self, choices):
        return choices[self.below(len(choices))]

    def modulus(self, n):
        """An odd number of n words whose highest word is not 0."""
        return WORD ** n - 1 - 2 * self.below(WORD ** n // 4)


class Case(unittest.TestCase):
    def same(self, answered, expected):
        """Like assertEqual, which takes minutes to tell how long rows of long numbers differ."""
        if answered == expected:
            return
        for place, (there, asked) in enumerate(zip(answered, expected)):
            if there != asked:
                self.fail(f"at {place} stands {there}, not {asked}")
        self.fail(f"{len(answered)} long, not {len(expected)}")

    def check_refused(self, n, call, refusal=-1):
        """The call is refused, and every register, the modulus and n stay."""
        self.check_unchanged(n, call, [refusal])

    def check_unchanged(self, n, call, answer):
        """The call has that answer, and every register, the modulus and n stay."""
        m = Numbers(n).modulus(n)
        fill = [put(r, m - 1 - r, n) for r in REGISTERS]
        parts = ask(
            begin(m, n), *fill, call, *get_all(n), put(0, m, n), get(0, n), put(0, m - 1, n), get(0, n),
        )
        self.same(parts[9], answer)
        self.same(parts[10:18], [got(m - 1 - r, n) for r in REGISTERS])
        self.same(parts[18:], [[0], got(0, n), [0], got(m - 1, n)])
