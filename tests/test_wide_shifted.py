"""Points 8 and 9: wide and shifted."""

import unittest

from oddmodulus.registers import answers
from tests.calls import WORD, Case, Numbers, ask, begin, get_all, got, meant_shift, shifted, wide, words

SIZES = (1, 2, 3, 32, 63, 64)
LEAST_BY = -2147483648
GREATEST_BY = 2147483647


class Wide(Case):
    def check_wide(self, a, b, n):
        parts = ask(begin(7, 1), wide(a, b, n))
        self.assertEqual(len(parts[1]), 1 + 2 * n)
        self.same(parts, [[0], [0] + words(a * b, 2 * n)])

    def test_written_out(self):
        self.same(answers([0, 1, 7, 11, 1, 3, 1, 5]), [1, 0, 3, 0, 15, 0])
        self.same(
            answers([0, 1, 7, 11, 1, 18446744073709551615, 1, 18446744073709551615]),
            [1, 0, 3, 0, 1, 18446744073709551614],
        )
        self.same(answers([0, 1, 7, 11, 2, 1, 2, 2, 3, 4]), [1, 0, 5, 0, 3, 10, 8, 0])

    def test_every_word_the_greatest(self):
        for n in (1, 2, 64):
            row = [18446744073709551615] * n
            answered = answers([0, 1, 7, 11, n] + row + [n] + row)
            found = [1] + [0] * (n - 1) + [18446744073709551614] + [18446744073709551615] * (n - 1)
            self.same(answered, [1, 0, 1 + 2 * n, 0] + found)

    def test_edges(self):
        for n in SIZES:
            greatest = WORD ** n - 1
            numbers = (0, 1, 2, WORD - 1, WORD ** (n - 1), WORD ** n // 2, greatest // 2, greatest - 1, greatest)
            for a in numbers:
                for b in numbers:
                    self.check_wide(a, b, n)

    def test_mixed_numbers_of_every_n(self):
        for n in range(1, 65):
            numbers = Numbers(800 + n)
            self.check_wide(numbers.below(WORD ** n), numbers.below(WORD ** n), n)

    def test_no_modulus_and_no_register_has_a_part(self):
        for n in (1, 2, 64):
            for k in (1, 2, 64):
                a = WORD ** k - 2
                self.check_unchanged(n, wide(a, a - 1, k), [0] + words(a * (a - 1), 2 * k))

    def test_no_words(self):
        self.same(answers([0, 1, 7, 11, 0, 0]), [1, 0, 1, -1])
        for n in (1, 2, 64):
            self.check_refused(n, wide(0, 0, 0))

    def test_more_than_64_words(self):
        self.check_refused(1, wide(1, 1, 65))
        self.check_refused(64, wide(WORD ** 65 - 1, WORD ** 65 - 1, 65))


class Shifted(Case):
    def check_shifts(self, a, n, shifts):
        parts = ask(begin(7, 1), *[shifted(a, n, by) for by in shifts])
        self.same(parts, [[0]] + [[0] + words(meant_shift(a, n, by), n) for by in shifts])

    def test_written_out(self):
        top = 9223372036854775808
        for by, found in ((0, 5), (1, 10), (-1, 2), (-2, 1), (-3, 0), (63, top), (64, 0), (-64, 0)):
            self.same(answers([0, 1, 7, 12, by, 1, 5]), [1, 0, 2, 0, found])
        rows = ((64, 0, 1), (-64, 2, 0), (1, 2, 4), (-1, 0, 1), (63, top, 0), (127, 0, top), (128, 0, 0), (-128, 0, 0))
        for by, low, high in rows:
            self.same(answers([0, 1, 7, 12, by, 2, 1, 2]), [1, 0, 3, 0, low, high])

    def shifts(self, n):
        ways = (0, 1, 2, 63, 64, 65, 64 * n - 1, 64 * n, 64 * n + 1)
        return [by for way in ways for by in (way, -way)] + [4095, 4096, 4097, -4095, -4096, -4097]

    def test_edges(self):
        for n in SIZES:
            greatest = WORD ** n - 1
            for a in (0, 1, 3, greatest // 3, WORD ** n // 2, greatest - 1, greatest):
                self.check_shifts(a, n, self.shifts(n))

    def test_greatest_shifts(self):
        for n in (1, 2, 64):
            for a in (0, 1, WORD ** n - 1):
                for by in (LEAST_BY, LEAST_BY + 1, GREATEST_BY - 1, GREATEST_BY, 10 ** 6, -10 ** 6):
                    parts = ask(begin(7, 1), shifted(a, n, by))
                    self.same(parts[1], [0] * (n + 1))

    def test_least_shifts_to_nothing(self):
        """By 64 n bits nothing is left, by one less one bit is, either way."""
        for n in (1, 2, 64):
            last = 64 * n - 1
            shifts = (64 * n, -64 * n, last, -last)
            parts = ask(begin(7, 1), *[shifted(WORD ** n - 1, n, by) for by in shifts])
            self.same(parts[1:], [got(0, n), got(0, n), got(WORD ** n // 2, n), got(1, n)])

    def test_every_shift(self):
        for n in (1, 2, 3):
            a = Numbers(n).below(WORD ** n)
            for by in range(-64 * n - 2, 64 * n + 3):
                self.check_shifts(a, n, [by])

    def test_mixed_numbers_of_every_n(self):
        for n in range(1, 65):
            numbers = Numbers(900 + n)
            by = numbers.below(64 * n)
            self.check_shifts(numbers.below(WORD ** n), n, [by, -by])

    def test_no_modulus_and_no_register_has_a_part(self):
        for n in (1, 2, 64):
            for k in (1, 2, 64):
                for by in (0, 1, -1, 64 * k, LEAST_BY, GREATEST_BY):
                    a = WORD ** k - 2
                    self.check_unchanged(n, shifted(a, k, by), got(meant_shift(a, k, by), k))

    def test_no_words(self):
        for by in (0, 1, -1, 64, LEAST_BY, GREATEST_BY):
            self.same(answers([0, 1, 7, 12, by, 0]), [1, 0, 1, -1])
            for n in (1, 2, 64):
                self.check_refused(n, shifted(0, 0, by))

    def test_more_than_64_words(self):
        for by in (0, 1, -1, LEAST_BY, GREATEST_BY):
            self.check_refused(64, shifted(WORD ** 65 - 1, 65, by))

    def test_the_next_call_is_found(self):
        parts = ask(begin(7, 1), shifted(0, 0, 1), wide(0, 0, 0), shifted(1, 1, 1), wide(2, 3, 1), *get_all(1))
        self.same(parts[1:5], [[-1], [-1], [0, 2], [0, 6, 0]])


if __name__ == "__main__":
    unittest.main()
