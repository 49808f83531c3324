"""Points 2 and 10 over every call that names registers."""

import itertools
import unittest

from tests.calls import (
    NOT_REGISTERS, Case, Numbers, ask, begin, difference, doubled, get, get_all, got, half, meant_half, meant_order,
    order, power, product, put, sum_of,
)

EXPONENT = [3, 1]
TIMES = 70

# Each call that puts its result into its first register, with what it makes of the others.
HELD = (
    (sum_of, 2, lambda m, a, b: (a + b) % m),
    (difference, 2, lambda m, a, b: (a - b) % m),
    (product, 2, lambda m, a, b: a * b % m),
    (half, 1, lambda m, a: meant_half(a, m)),
    (lambda d, a: doubled(d, a, TIMES), 1, lambda m, a: a * 2 ** TIMES % m),
    (lambda d, a: power(d, a, EXPONENT), 1, lambda m, a: pow(a, 259, m)),
)


def calls_by_places(n):
    """Each call as made from its registers alone, how many these are, and its refusal."""
    rows = [(call, 1 + read, -1) for call, read, _ in HELD]
    rows.append((lambda r: put(r, 5, n), 1, -1))
    rows.append((lambda r: get(r, n), 1, -1))
    rows.append((order, 2, -2))
    return rows


class NoRegister(Case):
    def test_in_each_place(self):
        for n in (1, 2, 64):
            for call, places, refusal in calls_by_places(n):
                for place in range(places):
                    for r in NOT_REGISTERS:
                        named = [(place + 3) % 8] * places
                        named[place] = r
                        with self.subTest(call=call(*named)):
                            self.check_refused(n, call(*named), refusal)

    def test_in_every_place(self):
        for call, places, refusal in calls_by_places(2):
            for r in NOT_REGISTERS:
                with self.subTest(call=call(*[r] * places)):
                    self.check_refused(2, call(*[r] * places), refusal)


class Shared(Case):
    def setUp(self):
        self.numbers = Numbers(77)

    def check_held(self, m, n, held, row, named):
        call, _, meant = row
        fill = [put(r, number, n) for r, number in enumerate(held)]
        parts = ask(begin(m, n), *fill, call(*named), *get_all(n))
        expected = list(held)
        expected[named[0]] = meant(m, *[held[r] for r in named[1:]])
        self.same(parts[9], [0])
        self.same(parts[10:], [got(number, n) for number in expected])

    def some(self, n):
        m = self.numbers.modulus(n)
        return m, [self.numbers.below(m) for _ in range(6)] + [m - 1, 0]

    def test_the_same_register_in_each_place(self):
        for n in (1, 2, 64):
            m, held = self.some(n)
            for row in HELD:
                for r in range(8):
                    self.check_held(m, n, held, row, [r] * (1 + row[1]))

    def test_every_choice_of_registers(self):
        m, held = self.some(1)
        for row in HELD:
            for named in itertools.product((0, 1, 6, 7), repeat=1 + row[1]):
                self.check_held(m, 1, held, row, named)

    def test_order_of_every_two(self):
        for n in (1, 2, 64):
            m, held = self.some(n)
            fill = [put(r, number, n) for r, number in enumerate(held)]
            pairs = list(itertools.product(range(8), repeat=2))
            parts = ask(begin(m, n), *fill, *[order(a, b) for a, b in pairs], *get_all(n))
            self.same(parts[9:73], [[meant_order(held[a], held[b])] for a, b in pairs])
            self.same(parts[73:], [got(number, n) for number in held])

    def test_changed_again_and_again(self):
        for n in (1, 2, 64):
            m, held = self.some(n)
            number = held[0]
            calls = []
            for call, read, meant in HELD * 3:
                calls.append(call(*[4] * (1 + read)))
                number = meant(m, *[number] * read)
                if number == 0:
                    # A difference of a register and itself; from 0 all that follows would be 0.
                    number = held[1]
                    calls.append(put(4, number, n))
            parts = ask(begin(m, n), put(4, held[0], n), *calls, get(4, n))
            self.same(parts[-1], got(number, n))


if __name__ == "__main__":
    unittest.main()
