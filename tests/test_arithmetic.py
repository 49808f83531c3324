"""Point 4: sum, difference and product modulo m, with points 2 and 10 as they hold for them."""

import unittest

from oddmodulus.registers import answers
from tests.calls import ARITHMETIC, GREATEST, NOT_REGISTERS, WORD, Case, Numbers, ask, begin, get_all, got, put

SIZES = (1, 2, 3, 32, 63, 64)


class Results(Case):
    def check_pair(self, m, n, a, b):
        for call, meant in ARITHMETIC:
            parts = ask(begin(m, n), put(0, a, n), put(1, b, n), call(2, 0, 1), *get_all(n))
            expected = [got(number, n) for number in (a, b, meant(a, b) % m, 0, 0, 0, 0, 0)]
            self.same(parts, [[0]] * 4 + expected)

    def test_written_out(self):
        start = [0, 1, 7, 1, 0, 1, 3, 1, 1, 1, 5]
        done = [1, 0, 1, 0, 1, 0, 1, 0]
        self.same(answers(start + [3, 2, 0, 1, 2, 2, 1]), done + [2, 0, 1])
        self.same(answers(start + [4, 2, 0, 1, 2, 2, 1]), done + [2, 0, 5])
        self.same(answers(start + [4, 2, 1, 0, 2, 2, 1]), done + [2, 0, 2])
        self.same(answers(start + [5, 2, 0, 1, 2, 2, 1]), done + [2, 0, 1])

    def test_every_pair_of_small_moduli(self):
        for m in (3, 5, 9):
            for a in range(m):
                for b in range(m):
                    self.check_pair(m, 1, a, b)

    def check_edges(self, m, n):
        edges = (0, 1, 2, m // 2, m // 2 + 1, m - 2, m - 1)
        for a in edges:
            for b in edges:
                self.check_pair(m, n, a, b)

    def test_edges_of_full_moduli(self):
        for n in SIZES:
            self.check_edges(Numbers(n).modulus(n), n)

    def test_edges_of_the_greatest_modulus(self):
        self.check_edges(WORD - 1, 1)
        self.check_edges(GREATEST, 64)

    def test_edges_with_highest_words_0(self):
        self.check_edges(3, 64)
        self.check_edges(WORD - 1, 2)
        self.check_edges(WORD + 1, 3)

    def test_sum_at_and_around_m(self):
        for n in SIZES:
            m = Numbers(40 + n).modulus(n)
            a = Numbers(50 + n).below(m - 3) + 2
            for b in (m - a - 1, m - a, m - a + 1):
                self.check_pair(m, n, a, b)

    def test_difference_at_and_around_0(self):
        for n in SIZES:
            m = Numbers(60 + n).modulus(n)
            a = Numbers(70 + n).below(m - 3) + 1
            for b in (a - 1, a, a + 1):
                self.check_pair(m, n, a, b)

    def test_carries_through_every_word(self):
        for n in (2, 32, 64):
            m = WORD ** n - 1
            self.check_pair(m, n, WORD ** (n - 1) - 1, 1)
            self.check_pair(m, n, WORD ** (n - 1), 1)
            self.check_pair(m, n, WORD ** (n - 1), WORD ** (n - 1) - 1)

    def test_mixed_numbers_of_every_n(self):
        for n in range(1, 65):
            numbers = Numbers(200 + n)
            for m in (numbers.modulus(n), numbers.modulus((n + 1) // 2)):
                self.check_pair(m, n, numbers.below(m), numbers.below(m))


class SameRegister(Case):
    """Point 10: a register may be named more than once in a call."""

    def check_names(self, m, n, held, d, a, b):
        for call, meant in ARITHMETIC:
            fill = [put(r, number, n) for r, number in enumerate(held)]
            parts = ask(begin(m, n), *fill, call(d, a, b), *get_all(n))
            expected = list(held)
            expected[d] = meant(held[a], held[b]) % m
            self.same(parts[9], [0])
            self.same(parts[10:], [got(number, n) for number in expected])

    def test_every_sharing(self):
        for n in (1, 2, 64):
            numbers = Numbers(300 + n)
            m = numbers.modulus(n)
            held = [numbers.below(m) for _ in range(6)] + [m - 1, 0]
            for d, a, b in ((1, 1, 2), (2, 1, 2), (1, 1, 1), (3, 1, 1), (6, 6, 6), (0, 6, 6), (7, 7, 7), (5, 7, 5)):
                with self.subTest(n=n, d=d, a=a, b=b):
                    self.check_names(m, n, held, d, a, b)

    def test_every_register_in_every_part(self):
        numbers = Numbers(400)
        m = numbers.modulus(1)
        held = [numbers.below(m) for _ in range(8)]
        for d in range(8):
            for a in range(8):
                for b in range(8):
                    self.check_names(m, 1, held, d, a, b)


class Refused(Case):
    def test_written_out(self):
        for number in (3, 4, 5):
            for row in ([8, 0, 1], [0, 8, 1], [0, 1, 8], [-1, 0, 1], [0, -1, 1], [0, 1, -1]):
                self.same(answers([0, 1, 7, number] + row), [1, 0, 1, -1])

    def test_one_that_is_no_register(self):
        for n in (1, 64):
            for call, _ in ARITHMETIC:
                for r in NOT_REGISTERS:
                    for d, a, b in ((r, 1, 2), (1, r, 2), (1, 2, r)):
                        with self.subTest(n=n, call=call.__name__, d=d, a=a, b=b):
                            self.check_refused(n, call(d, a, b))

    def test_several_that_are_no_registers(self):
        for call, _ in ARITHMETIC:
            for r in NOT_REGISTERS:
                for d, a, b in ((r, r, 2), (r, 2, r), (2, r, r), (r, r, r)):
                    with self.subTest(call=call.__name__, d=d, a=a, b=b):
                        self.check_refused(2, call(d, a, b))


if __name__ == "__main__":
    unittest.main()
