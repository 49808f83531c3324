"""Point 6: power, with the refusals of point 2."""

import unittest

from oddmodulus.registers import answers
from tests.calls import GREATEST, WORD, Case, Numbers, ask, begin, get_all, got, number_of_bytes, power, put

SIZES = (1, 2, 3, 32, 64)


def edges(m):
    return (0, 1, 2, m // 2, m - 2, m - 1)


class Results(Case):
    def check_power(self, m, n, a, e):
        parts = ask(begin(m, n), put(0, a, n), power(1, 0, e), *get_all(n))
        found = pow(a, number_of_bytes(e), m)
        self.same(parts, [[0]] * 3 + [got(number, n) for number in (a, found, 0, 0, 0, 0, 0, 0)])

    def test_written_out(self):
        for e, found in (([], 1), ([0], 1), ([1], 3), ([2], 2), ([5], 5), ([0, 1], 4), ([5, 0, 0], 5), ([255], 6)):
            calls = [0, 1, 7, 1, 0, 1, 3, 8, 1, 0, len(e)] + e + [2, 1, 1]
            self.same(answers(calls), [1, 0, 1, 0, 1, 0, 2, 0, found])

    def test_power_of_0_is_1(self):
        for n in SIZES:
            m = Numbers(n).modulus(n)
            for a in edges(m):
                for e in ([], [0], [0, 0], [0] * 511, [0] * 512):
                    parts = ask(begin(m, n), put(0, a, n), power(1, 0, e), *get_all(n))
                    self.same(parts[4], got(1, n))

    def test_power_of_0_by_the_least_modulus(self):
        for a in range(3):
            for e in ([], [0], [0] * 512):
                self.check_power(3, 1, a, e)
                self.check_power(3, 64, a, e)

    def test_number_0(self):
        for n in SIZES:
            m = Numbers(n).modulus(n)
            for e in ([], [0], [1], [2], [255], [0, 1], [0] * 511 + [1], [255] * 512):
                self.check_power(m, n, 0, e)

    def test_m_less_1(self):
        """Its powers are 1 and m - 1 in turn."""
        for n in SIZES:
            m = Numbers(n).modulus(n)
            for e, found in (([0], 1), ([1], m - 1), ([2], 1), ([255], m - 1), ([254, 255], 1), ([0, 1], 1)):
                parts = ask(begin(m, n), put(0, m - 1, n), power(1, 0, e), *get_all(n))
                self.same(parts[4], got(found, n))
            self.check_power(m, n, m - 1, [255] * 40)

    def test_every_single_byte(self):
        numbers = Numbers(21)
        m = numbers.modulus(2)
        a = numbers.below(m)
        for byte in range(256):
            self.check_power(m, 2, a, [byte])

    def test_every_small_number(self):
        for m in (3, 5, 9, 15):
            for a in range(m):
                for exponent in range(20):
                    self.check_power(m, 1, a, [exponent])

    def test_lowest_byte_first(self):
        numbers = Numbers(22)
        m = numbers.modulus(2)
        a = numbers.below(m)
        for e in ([1, 2], [2, 1], [1, 0], [0, 1], [1, 2, 3, 4, 5], [0, 0, 0, 1], [1, 0, 0, 0], [16, 1], [15, 240]):
            self.check_power(m, 2, a, e)

    def test_each_bit_by_itself(self):
        numbers = Numbers(23)
        m = numbers.modulus(1)
        a = numbers.below(m)
        for place in (0, 1, 2, 100, 510, 511):
            for bit in range(8):
                self.check_power(m, 1, a, [0] * place + [2 ** bit])

    def test_512_bytes_of_255(self):
        e = [255] * 512
        for n in SIZES:
            numbers = Numbers(30 + n)
            m = numbers.modulus(n)
            self.check_power(m, n, numbers.below(m), e)
        self.check_power(GREATEST, 64, GREATEST - 2, e)
        self.check_power(GREATEST, 64, GREATEST - 1, e)
        self.check_power(3, 64, 2, e)

    def test_edges_of_the_greatest_modulus(self):
        for m, n in ((WORD - 1, 1), (GREATEST, 64)):
            for a in edges(m):
                for e in ([1], [2], [3], [255, 255], [0, 0, 1]):
                    self.check_power(m, n, a, e)

    def test_numbers_that_share_a_divisor_with_m(self):
        for exponent in range(12):
            self.check_power(3 ** 20, 1, 3, [exponent])
            self.check_power(3 ** 20, 1, 3 ** 7, [exponent])
            self.check_power(15 ** 100, 64, 5 ** 60, [exponent])

    def test_mixed_numbers_of_every_n(self):
        for n in range(1, 65):
            numbers = Numbers(700 + n)
            m = numbers.modulus(n)
            e = [numbers.below(256) for _ in range(1 + numbers.below(40))]
            self.check_power(m, n, numbers.below(m), e)

    def test_mixed_512_bytes_by_64_words(self):
        numbers = Numbers(24)
        m = numbers.modulus(64)
        self.check_power(m, 64, numbers.below(m), [numbers.below(256) for _ in range(512)])


class Refused(Case):
    def test_more_than_512_bytes(self):
        for count in (513, 514, 1024):
            self.same(answers([0, 1, 7, 8, 0, 0, count] + [1] * count), [1, 0, 1, -1])
            self.check_refused(2, power(1, 0, [1] * count))

    def test_no_register_with_no_bytes(self):
        self.check_refused(1, power(8, 0, []))
        self.check_refused(1, power(0, 8, []))

    def test_the_next_call_is_found_behind_a_refusal(self):
        parts = ask(begin(7, 1), put(0, 3, 1), power(8, 0, [1, 2, 3]), power(1, 0, [2]), *get_all(1))
        self.same(parts[2:6], [[-1], [0], got(3, 1), got(2, 1)])


if __name__ == "__main__":
    unittest.main()
