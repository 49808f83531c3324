"""Point 3: put and get, with their refusals of point 2."""

import unittest

from oddmodulus.registers import answers
from tests.calls import GREATEST, NOT_REGISTERS, WORD, Case, Numbers, ask, begin, get, get_all, got, put

SIZES = (1, 2, 3, 31, 63, 64)


class Held(Case):
    def check_put(self, m, n, x):
        parts = ask(begin(m, n), put(2, x, n), get(2, n))
        self.same(parts, [[0], [0], got(x % m, n)])

    def test_written_out(self):
        self.same(answers([0, 1, 7, 1, 0, 1, 20, 2, 0, 1]), [1, 0, 1, 0, 2, 0, 6])
        self.same(
            answers([0, 2, 3, 1, 1, 7, 2, 18446744073709551615, 0, 2, 7, 2]),
            [1, 0, 1, 0, 3, 0, 18446744073709551615, 0],
        )

    def test_lowest_word_first(self):
        for n in SIZES:
            row = list(range(1, n + 1))
            answered = answers([0, n] + [WORD - 1] * n + [1, 4, n] + row + [2, 4, n])
            self.same(answered, [1, 0, 1, 0, n + 1, 0] + row)

    def test_below_m(self):
        for n in SIZES:
            m = Numbers(n).modulus(n)
            for x in (0, 1, 2, m // 2, m - 2, m - 1):
                self.check_put(m, n, x)

    def test_m_itself_and_just_above(self):
        for n in SIZES:
            m = Numbers(n).modulus(n) // WORD * 2 + 3
            for x in (m - 1, m, m + 1, 2 * m - 1, 2 * m, 2 * m + 1):
                self.check_put(m, n, x)

    def test_many_times_m(self):
        for n in SIZES:
            numbers = Numbers(n)
            for m in (3, 5, WORD - 1, numbers.modulus(n // 2 + 1), numbers.modulus(n)):
                times = (WORD ** n - 1) // m
                for x in (times * m, times * m - 1, WORD ** n - 1, numbers.below(WORD ** n)):
                    self.check_put(m, n, x)

    def test_greatest_of_64_words(self):
        self.check_put(GREATEST, 64, GREATEST)
        self.check_put(GREATEST, 64, GREATEST - 1)
        self.check_put(3, 64, GREATEST)
        self.check_put(3, 64, GREATEST - 1)

    def test_mixed_numbers_of_every_n(self):
        for n in range(1, 65):
            numbers = Numbers(100 + n)
            self.check_put(numbers.modulus(n), n, numbers.below(WORD ** n))

    def test_put_again_takes_the_last(self):
        parts = ask(begin(11, 1), put(6, 9, 1), put(6, 4, 1), get(6, 1), get(6, 1))
        self.same(parts, [[0], [0], [0], got(4, 1), got(4, 1)])

    def test_each_register_by_itself(self):
        for n in (1, 64):
            for r in range(8):
                parts = ask(begin(WORD ** n - 1, n), put(r, 5 + r, n), *get_all(n))
                expected = [got(5 + r if other == r else 0, n) for other in range(8)]
                self.same(parts, [[0], [0]] + expected)

    def test_all_registers_at_once(self):
        n = 20
        m = Numbers(3).modulus(n)
        parts = ask(begin(m, n), *[put(r, m - 1 - r, n) for r in range(8)], *get_all(n))
        self.same(parts[9:], [got(m - 1 - r, n) for r in range(8)])


class Refused(Case):
    def test_written_out(self):
        self.same(answers([0, 1, 7, 1, 8, 1, 5]), [1, 0, 1, -1])
        self.same(answers([0, 1, 7, 1, 0, 0]), [1, 0, 1, -1])
        self.same(answers([0, 1, 7, 2, -1, 1]), [1, 0, 1, -1])
        self.same(answers([0, 1, 7, 2, 0, 2]), [1, 0, 1, -1])

    def test_put_to_no_register(self):
        for n in (1, 2, 64):
            for r in NOT_REGISTERS:
                with self.subTest(n=n, r=r):
                    self.check_refused(n, put(r, 5, n))

    def test_get_of_no_register(self):
        for n in (1, 2, 64):
            for r in NOT_REGISTERS:
                with self.subTest(n=n, r=r):
                    self.check_refused(n, get(r, n))

    def test_put_of_another_n(self):
        for n in (1, 2, 33, 64):
            for other in (0, 1, 2, 32, 33, 34, 63, 64):
                if other != n:
                    with self.subTest(n=n, other=other):
                        self.check_refused(n, put(3, 5 if other else 0, other))

    def test_get_of_another_n(self):
        # The first failure ends the test: a get that took the greatest n would fill the memory.
        for other in (0, 1, 2, 32, 33, 34, 63, 64, 65, 2 ** 31, 2 ** 32 - 1):
            for n in (1, 2, 33, 64):
                if other != n:
                    self.check_refused(n, get(3, other))

    def test_n_is_not_what_m_needs(self):
        parts = ask(begin(3, 4), put(0, 2, 1), get(0, 1), put(0, 2, 4), get(0, 4))
        self.same(parts, [[0], [-1], [-1], [0], got(2, 4)])

    def test_both_wrong(self):
        self.check_refused(2, put(8, 5, 1))
        self.check_refused(2, put(-1, 0, 0))
        self.check_refused(2, get(8, 1))
        self.check_refused(2, get(-2147483648, 2 ** 32 - 1))


if __name__ == "__main__":
    unittest.main()
