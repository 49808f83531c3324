"""Point 1: begin."""

import unittest

from oddmodulus.registers import answers
from tests.calls import GREATEST, WORD, Case, Numbers, ask, begin, get, get_all, got, put

# Each is refused: no words, even, 0, 1, more than 64 words.
REFUSED_WORDS = (
    [],
    [0],
    [1],
    [2],
    [4],
    [WORD - 2],
    [0, 0],
    [1, 0],
    [2, 0],
    [0, 1],
    [WORD - 2, WORD - 1],
    [0] * 64,
    [1] + [0] * 63,
    [2] + [0] * 63,
    [0] * 63 + [1],
    [WORD - 2] + [WORD - 1] * 63,
    [3] + [0] * 64,
    [WORD - 1] * 65,
)


class Taken(Case):
    def check_modulus(self, m, n):
        """m itself leaves 0, and m - 1 stays: so the modulus is m."""
        parts = ask(begin(m, n), put(0, m, n), put(1, m - 1, n), get(0, n), get(1, n))
        self.same(parts, [[0], [0], [0], got(0, n), got(m - 1, n)])

    def test_written_out(self):
        self.same(answers([0, 1, 7]), [1, 0])
        self.same(answers([0, 2, 5, 1]), [1, 0])

    def test_three_of_one_word(self):
        self.check_modulus(3, 1)

    def test_greatest_of_one_word(self):
        self.check_modulus(WORD - 1, 1)

    def test_three_with_highest_words_0(self):
        for n in (2, 3, 17, 63, 64):
            self.check_modulus(3, n)

    def test_some_highest_words_0(self):
        for n, used in ((2, 1), (5, 2), (33, 32), (64, 1), (64, 63)):
            self.check_modulus(Numbers(n).modulus(used), n)

    def test_greatest_of_64_words(self):
        self.check_modulus(GREATEST, 64)

    def test_low_word_1_below_a_higher_word(self):
        self.check_modulus(WORD + 1, 2)
        self.check_modulus(WORD ** 63 + 1, 64)

    def test_every_n(self):
        for n in range(1, 65):
            self.check_modulus(Numbers(n).modulus(n), n)

    def test_every_small_odd_modulus(self):
        for m in range(3, 101, 2):
            self.check_modulus(m, 1)

    def test_every_register_holds_0(self):
        for n in (1, 2, 29, 64):
            parts = ask(begin(Numbers(n).modulus(n), n), *get_all(n))
            self.same(parts, [[0]] + [got(0, n)] * 8)


class Refused(Case):
    def test_answer_is_the_number_alone(self):
        for row in REFUSED_WORDS:
            with self.subTest(row=row):
                self.same(answers([0, 1, 7, 0, len(row)] + row), [1, 0, 1, -1])

    def test_small_even_moduli(self):
        for m in range(0, 101, 2):
            self.same(ask(begin(7, 1), begin(m, 1)), [[0], [-1]])

    def test_modulus_n_and_registers_stay(self):
        for n in (1, 2, 64):
            for row in REFUSED_WORDS:
                with self.subTest(n=n, row=row):
                    self.check_refused(n, [0, len(row)] + row)

    def test_n_of_the_refused_begin_is_not_taken(self):
        parts = ask(begin(7, 1), begin(8, 2), get(0, 2), put(0, 1, 2), get(0, 1))
        self.same(parts, [[0], [-1], [-1], [-1], got(0, 1)])


class Again(Case):
    def check_second(self, first, second):
        m, n = first
        k, p = second
        fill = [put(r, m - 1 - r % 2, n) for r in range(8)]
        parts = ask(
            begin(m, n), *fill, begin(k, p), *get_all(p),
            put(5, k, p), get(5, p), put(5, k - 1, p), get(5, p),
        )
        self.same(parts[:10], [[0]] * 10)
        self.same(parts[10:18], [got(0, p)] * 8)
        self.same(parts[18:], [[0], got(0, p), [0], got(k - 1, p)])

    def test_new_modulus_n_and_registers(self):
        moduli = [(3, 1), (WORD - 1, 1), (3, 64), (GREATEST, 64), (Numbers(5).modulus(20), 20)]
        for first in moduli:
            for second in moduli:
                with self.subTest(first=first, second=second):
                    self.check_second(first, second)

    def test_old_n_is_refused_afterwards(self):
        parts = ask(begin(7, 1), begin(9, 2), get(0, 1), put(0, 5, 1), get(0, 2))
        self.same(parts, [[0], [0], [-1], [-1], got(0, 2)])

    def test_taken_after_a_refused_one(self):
        parts = ask(begin(7, 1), put(3, 6, 1), begin(1, 1), begin(5, 1), get(3, 1), put(3, 6, 1), get(3, 1))
        self.same(parts, [[0], [0], [-1], [0], got(0, 1), [0], got(1, 1)])


if __name__ == "__main__":
    unittest.main()
