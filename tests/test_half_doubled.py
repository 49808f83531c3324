"""Point 5: half and doubled, with the refusals of point 2."""

import unittest

from oddmodulus.registers import answers
from tests.calls import GREATEST, WORD, Case, Numbers, ask, begin, doubled, get_all, got, half, meant_half, put

SIZES = (1, 2, 3, 32, 63, 64)
TIMES = (0, 1, 2, 3, 63, 64, 65, 4094, 4095, 4096)
NOT_TIMES = (-1, -2, -64, -4096, 4097, 4098, 8192, -2147483648, 2147483647)


def edges(m):
    return (0, 1, 2, 3 % m, m // 2, m // 2 + 1, m - 2, m - 1)


class Half(Case):
    def check_half(self, m, n, a):
        parts = ask(begin(m, n), put(0, a, n), half(1, 0), *get_all(n))
        found = meant_half(a, m)
        self.same(parts, [[0]] * 3 + [got(number, n) for number in (a, found, 0, 0, 0, 0, 0, 0)])
        self.assertEqual(found * 2 % m, a)

    def test_written_out(self):
        for a, found in ((0, 0), (1, 4), (2, 1), (3, 5), (4, 2), (5, 6), (6, 3)):
            self.same(answers([0, 1, 7, 1, 0, 1, a, 6, 1, 0, 2, 1, 1]), [1, 0, 1, 0, 1, 0, 2, 0, found])

    def test_every_number_of_small_moduli(self):
        for m in range(3, 32, 2):
            for a in range(m):
                self.check_half(m, 1, a)

    def test_edges_of_full_moduli(self):
        for n in SIZES:
            m = Numbers(n).modulus(n)
            for a in edges(m):
                self.check_half(m, n, a)

    def test_edges_of_the_greatest_modulus(self):
        # An odd number plus the modulus is past n words here.
        for m, n in ((WORD - 1, 1), (WORD ** 2 - 1, 2), (GREATEST, 64)):
            for a in edges(m):
                self.check_half(m, n, a)

    def test_edges_with_highest_words_0(self):
        for m, n in ((3, 64), (WORD - 1, 2), (WORD + 1, 3)):
            for a in edges(m):
                self.check_half(m, n, a)

    def test_mixed_numbers_of_every_n(self):
        for n in range(1, 65):
            numbers = Numbers(500 + n)
            m = numbers.modulus(n)
            a = numbers.below(m - 1) // 2 * 2
            self.check_half(m, n, a)
            self.check_half(m, n, a + 1)

    def test_doubled_again_it_is_a(self):
        for n in SIZES:
            m = Numbers(n).modulus(n)
            for a in edges(m):
                parts = ask(begin(m, n), put(5, a, n), half(4, 5), doubled(3, 4, 1), *get_all(n))
                self.same(parts[7], got(a, n))


class Doubled(Case):
    def check_doubled(self, m, n, a, times):
        parts = ask(begin(m, n), put(0, a, n), doubled(1, 0, times), *get_all(n))
        found = a * 2 ** times % m
        self.same(parts, [[0]] * 3 + [got(number, n) for number in (a, found, 0, 0, 0, 0, 0, 0)])

    def test_written_out(self):
        for times, found in ((0, 3), (1, 6), (2, 5), (3, 3), (4, 6), (4095, 3), (4096, 6)):
            self.same(answers([0, 1, 7, 1, 0, 1, 3, 7, 1, 0, times, 2, 1, 1]), [1, 0, 1, 0, 1, 0, 2, 0, found])

    def test_edges_of_full_moduli(self):
        for n in SIZES:
            m = Numbers(n).modulus(n)
            for a in edges(m):
                for times in TIMES:
                    self.check_doubled(m, n, a, times)

    def test_edges_of_the_greatest_modulus(self):
        for m, n in ((WORD - 1, 1), (GREATEST, 64)):
            for a in edges(m):
                for times in TIMES:
                    self.check_doubled(m, n, a, times)

    def test_edges_with_highest_words_0(self):
        for m, n in ((3, 64), (WORD - 1, 2), (WORD + 1, 3)):
            for a in edges(m):
                for times in TIMES:
                    self.check_doubled(m, n, a, times)

    def test_every_few_times(self):
        m = Numbers(9).modulus(3)
        for times in range(0, 4097, 7):
            self.check_doubled(m, 3, m - 2, times)

    def test_mixed_numbers_of_every_n(self):
        for n in range(1, 65):
            numbers = Numbers(600 + n)
            m = numbers.modulus(n)
            self.check_doubled(m, n, numbers.below(m), numbers.below(4097))


class Refused(Case):
    def test_written_out(self):
        for times in NOT_TIMES:
            self.same(answers([0, 1, 7, 7, 1, 0, times]), [1, 0, 1, -1])

    def test_times_out_of_their_range(self):
        for n in (1, 2, 64):
            for times in NOT_TIMES:
                with self.subTest(n=n, times=times):
                    self.check_refused(n, doubled(1, 0, times))
                    self.check_refused(n, doubled(2, 2, times))

    def test_register_and_times_wrong(self):
        self.check_refused(2, doubled(8, 0, 4097))
        self.check_refused(2, doubled(0, -1, -1))


if __name__ == "__main__":
    unittest.main()
