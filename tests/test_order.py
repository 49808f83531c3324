"""Point 7: order."""

import unittest

from oddmodulus.registers import answers
from tests.calls import GREATEST, NOT_REGISTERS, WORD, Case, Numbers, ask, begin, get_all, got, meant_order, order, put


class Results(Case):
    def check_order(self, m, n, a, b):
        parts = ask(begin(m, n), put(3, a, n), put(5, b, n), order(3, 5), order(5, 3), *get_all(n))
        self.same(parts[3:5], [[meant_order(a, b)], [meant_order(b, a)]])
        self.same(parts[5:], [got(number, n) for number in (0, 0, 0, a, 0, b, 0, 0)])

    def test_written_out(self):
        for a, b, found in ((3, 5, -1), (5, 5, 0), (5, 3, 1), (0, 6, -1), (6, 0, 1), (0, 0, 0)):
            self.same(answers([0, 1, 7, 1, 0, 1, a, 1, 1, 1, b, 10, 0, 1]), [1, 0, 1, 0, 1, 0, 1, found])

    def test_every_pair_of_small_moduli(self):
        for m in (3, 5, 9):
            for a in range(m):
                for b in range(m):
                    self.check_order(m, 1, a, b)

    def test_edges(self):
        for m, n in ((WORD - 1, 1), (Numbers(2).modulus(2), 2), (3, 64), (Numbers(64).modulus(64), 64), (GREATEST, 64)):
            numbers = (0, 1, 2, m // 2, m // 2 + 1, m - 2, m - 1)
            for a in numbers:
                for b in numbers:
                    self.check_order(m, n, a, b)

    def test_apart_in_one_word(self):
        for n in (2, 3, 64):
            base = (WORD ** n - 1) // 3
            for place in range(n):
                self.check_order(WORD ** n - 1, n, base, base + WORD ** place)

    def test_highest_word_counts_first(self):
        for n in (2, 3, 64):
            for place in range(1, n):
                self.check_order(WORD ** n - 1, n, WORD ** place - 1, WORD ** place)

    def test_numbers_as_they_are_held(self):
        """What is put is less m as many times as can be before it's compared."""
        parts = ask(begin(7, 1), put(0, 8, 1), put(1, 6, 1), put(2, 1, 1), order(0, 1), order(0, 2), order(1, 0))
        self.same(parts[4:], [[-1], [0], [1]])

    def test_register_and_itself(self):
        for n in (1, 2, 64):
            m = Numbers(n).modulus(n)
            fill = [put(r, m - 1 - r, n) for r in range(7)]
            parts = ask(begin(m, n), *fill, *[order(r, r) for r in range(8)])
            self.same(parts[8:], [[0]] * 8)

    def test_nothing_changes(self):
        # check_unchanged fills the registers downwards.
        for n in (1, 2, 64):
            self.check_unchanged(n, order(0, 1), [1])
            self.check_unchanged(n, order(1, 0), [-1])
            self.check_unchanged(n, order(4, 4), [0])


class Refused(Case):
    def test_written_out(self):
        for a, b in ((8, 0), (0, 8), (-1, 0), (0, -1), (8, 8), (-1, 8)):
            self.same(answers([0, 1, 7, 10, a, b]), [1, 0, 1, -2])

    def test_no_register_in_either_place(self):
        for n in (1, 2, 64):
            for r in NOT_REGISTERS:
                for a, b in ((r, 0), (0, r), (7, r), (r, 7), (r, r)):
                    with self.subTest(n=n, a=a, b=b):
                        self.check_refused(n, order(a, b), refusal=-2)


if __name__ == "__main__":
    unittest.main()
