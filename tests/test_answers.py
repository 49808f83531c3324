"""The interface: oddmodulus.registers.answers over lists of several calls."""

import contextlib
import inspect
import io
import sys
import unittest

from oddmodulus.registers import UnknownCall, answers
from tests.calls import (
    ARITHMETIC, NOT_REGISTERS, WORD, Case, Numbers, begin, doubled, get, half, meant_half, meant_order, meant_shift,
    number_of_bytes, order, power, product, put, shifted, sum_of, wide, words,
)

KINDS = (0, 1, 2, 3, 4, 5, 6, 7, 8, 10, 11, 12)
NOT_TIMES = (-1, 4097, -2147483648, 2147483647)
GREATEST_SHIFTS = (-2147483648, 2147483647)


class Script:
    """A list of calls of every kind, taken and refused, beside the answers that the document asks for."""

    def __init__(self, seed, most_words):
        self.numbers = Numbers(seed)
        self.most_words = most_words
        self.most_bytes = 20
        self.calls = []
        self.expected = []
        self.kinds = []
        self.begin_taken()

    def say(self, call, answer):
        self.kinds.append((call[0], answer[0]))
        self.calls.extend(call)
        self.expected.extend([len(answer)] + answer)

    def begin_taken(self):
        self.n = 1 + self.numbers.below(self.most_words)
        self.m = self.numbers.modulus(1 + self.numbers.below(self.n))
        self.held = {r: 0 for r in range(8)}
        self.say(begin(self.m, self.n), [0])

    def begin_refused(self):
        n = 1 + self.numbers.below(self.most_words)
        self.say(self.numbers.pick([[0, 0], begin(1, n), begin(self.numbers.modulus(n) - 1, n)]), [-1])

    def place(self):
        if self.numbers.below(12) == 0:
            return self.numbers.pick(NOT_REGISTERS)
        return self.numbers.below(8)

    def length(self):
        if self.numbers.below(12) == 0:
            return self.numbers.below(65)
        return self.n

    def put_some(self):
        r, n = self.place(), self.length()
        x = self.numbers.below(WORD ** n)
        taken = r in self.held and n == self.n
        if taken:
            self.held[r] = x % self.m
        self.say(put(r, x, n), [0] if taken else [-1])

    def get_some(self):
        r, n = self.place(), self.length()
        taken = r in self.held and n == self.n
        self.say(get(r, n), [0] + words(self.held[r], n) if taken else [-1])

    def hold(self, call, d, read, meant):
        """meant makes d's number of those that the registers hold that are read."""
        taken = d in self.held and all(r in self.held for r in read)
        if taken:
            self.held[d] = meant(*[self.held[r] for r in read]) % self.m
        self.say(call, [0] if taken else [-1])

    def reckon(self, call, meant):
        d, a, b = self.place(), self.place(), self.place()
        self.hold(call(d, a, b), d, (a, b), meant)

    def halve(self):
        d, a = self.place(), self.place()
        self.hold(half(d, a), d, (a,), lambda number: meant_half(number, self.m))

    def double(self):
        d, a = self.place(), self.place()
        if self.numbers.below(6) == 0:
            self.say(doubled(d, a, self.numbers.pick(NOT_TIMES)), [-1])
            return
        times = self.numbers.below(4097)
        self.hold(doubled(d, a, times), d, (a,), lambda number: number * 2 ** times)

    def raise_to(self):
        d, a = self.place(), self.place()
        e = [self.numbers.below(256) for _ in range(self.numbers.below(self.most_bytes + 1))]
        self.hold(power(d, a, e), d, (a,), lambda number: pow(number, number_of_bytes(e), self.m))

    def compare(self):
        a, b = self.place(), self.place()
        taken = a in self.held and b in self.held
        self.say(order(a, b), [meant_order(self.held[a], self.held[b]) if taken else -2])

    def widen(self):
        n = self.numbers.below(self.most_words + 1)
        a, b = self.numbers.below(WORD ** n), self.numbers.below(WORD ** n)
        self.say(wide(a, b, n), [0] + words(a * b, 2 * n) if n else [-1])

    def shift(self):
        n = self.numbers.below(self.most_words + 1)
        a = self.numbers.below(WORD ** n)
        by = self.numbers.below(128 * n + 1) - 64 * n
        if self.numbers.below(6) == 0:
            by = self.numbers.pick(GREATEST_SHIFTS)
        self.say(shifted(a, n, by), [0] + words(meant_shift(a, n, by), n) if n else [-1])

    def steps(self):
        plain = [
            self.put_some, self.get_some, self.halve, self.double, self.raise_to, self.compare, self.widen, self.shift,
        ]
        return plain + [lambda pair=pair: self.reckon(*pair) for pair in ARITHMETIC]


def script(seed, calls, most_words):
    """Every second call is of the next kind in turn, so that none is left out; the others are mixed."""
    made = Script(seed, most_words)
    steps = made.steps()
    turn = steps + [made.begin_refused] + steps + [made.begin_taken]
    for count in range(calls - 1):
        if count % 2 == 0:
            turn[count // 2 % len(turn)]()
        elif made.numbers.below(2) == 0:
            made.put_some()
        else:
            made.numbers.pick(steps)()
    return made


def longest_script():
    """100 calls of every kind with rows as long as may be; 16000 numbers are the most."""
    made = Script(50, 64)
    made.calls, made.expected, made.kinds = [], [], []
    made.n = 64
    made.m = made.numbers.modulus(64)
    made.say(begin(made.m, 64), [0])
    for r in range(8):
        x = made.numbers.below(WORD ** 64)
        made.held[r] = x % made.m
        made.say(put(r, x, 64), [0])
    for count in range(23):
        d, a = count % 8, count % 7
        e = [made.numbers.below(256) for _ in range(511)] + [255]
        made.hold(power(d, a, e), d, (a,), lambda number, e=e: pow(number, number_of_bytes(e), made.m))
    for _ in range(21):
        a, b = made.numbers.below(WORD ** 64), made.numbers.below(WORD ** 64)
        made.say(wide(a, b, 64), [0] + words(a * b, 128))
    for by in (0, 1, -1, 64, -64, 4095, -4095, -2147483648, 2147483647):
        a = made.numbers.below(WORD ** 64)
        made.say(shifted(a, 64, by), [0] + words(meant_shift(a, 64, by), 64))
    small = [made.get_some, made.halve, made.double, made.compare]
    small = small + [lambda pair=pair: made.reckon(*pair) for pair in ARITHMETIC]
    while len(made.kinds) < 100:
        small[len(made.kinds) % len(small)]()
    return made


class Unchanging(list):
    """A list that can't be changed, not for a while either."""

    def refuse(self, *args, **kwargs):
        raise AssertionError("the list handed in was changed")

    __setitem__ = __delitem__ = __iadd__ = __imul__ = refuse
    append = clear = extend = insert = pop = remove = reverse = sort = refuse


class Lists(Case):
    def test_written_out(self):
        calls = [
            0, 2, 1, 1,
            1, 0, 2, 0, 1,
            1, 1, 2, 2, 0,
            3, 2, 0, 1,
            2, 2, 2,
            4, 3, 2, 8,
            2, 3, 2,
            5, 3, 0, 0,
            2, 3, 2,
            2, 3, 1,
            0, 0,
            0, 1, 5,
            2, 3, 1,
        ]
        expected = [
            1, 0,
            1, 0,
            1, 0,
            1, 0,
            3, 0, 1, 0,
            1, -1,
            3, 0, 0, 0,
            1, 0,
            3, 0, 1, 0,
            1, -1,
            1, -1,
            1, 0,
            2, 0, 0,
        ]
        self.same(answers(calls), expected)

    def test_one_call(self):
        self.same(answers([0, 1, 3]), [1, 0])

    def test_up_to_100_calls(self):
        for calls in range(1, 101):
            made = script(calls, calls, 8)
            self.same(answers(made.calls), made.expected)

    def check_twice(self, made):
        before = list(made.calls)
        first = answers(made.calls)
        self.same(first, made.expected)
        self.same(answers(made.calls), first)
        self.same(made.calls, before)

    def test_100_calls_of_every_kind(self):
        for seed in range(1000, 1040):
            made = script(seed, 100, 64)
            self.assertEqual(len(made.kinds), 100)
            self.assertEqual({kind for kind, _ in made.kinds}, set(KINDS))
            # begin comes again amid the calls, taken and refused.
            self.assertIn((0, 0), made.kinds[1:-1])
            self.assertIn((0, -1), made.kinds[1:-1])
            self.assertLessEqual(len(made.calls), 16000)
            self.check_twice(made)

    def test_near_16000_numbers(self):
        made = longest_script()
        self.assertEqual(len(made.kinds), 100)
        self.assertEqual({kind for kind, _ in made.kinds}, set(KINDS))
        self.assertTrue(15900 <= len(made.calls) <= 16000, len(made.calls))
        self.check_twice(made)

    def test_100_calls_of_64_words_each(self):
        m = WORD ** 64 - 1
        calls = begin(m, 64)
        expected = [1, 0]
        for step in range(49):
            x = m - 1 - step
            calls = calls + put(step % 8, x, 64) + get(step % 8, 64)
            expected = expected + [1, 0, 65, 0] + words(x, 64)
        calls = calls + get(7, 64)
        expected = expected + [65, 0] + words(m - 1 - 47, 64)
        self.same(answers(calls), expected)

    def test_results_are_gone_on_with(self):
        m = 1000003
        # Few squarings: numbers that are not kept below m would soon fill the memory instead of failing.
        calls = begin(m, 1) + put(0, 2, 1) + product(0, 0, 0) * 20 + sum_of(0, 0, 0) * 77 + get(0, 1)
        expected = [1, 0] * 99 + [2, 0, pow(2, 2 ** 20, m) * 2 ** 77 % m]
        self.same(answers(calls), expected)


class Kept(Case):
    def test_list_handed_in_is_the_same_afterwards(self):
        made = script(7, 100, 64)
        before = list(made.calls)
        answers(made.calls)
        self.same(made.calls, before)

    def test_list_handed_in_is_not_changed_for_a_while(self):
        made = script(8, 100, 64)
        self.same(answers(Unchanging(made.calls)), made.expected)

    def test_asked_twice(self):
        made = script(9, 100, 16)
        self.same(answers(made.calls), answers(made.calls))

    def test_nothing_stays_from_another_list(self):
        first = script(10, 100, 16)
        second = script(11, 100, 16)
        for made in (first, second, first, second):
            self.same(answers(made.calls), made.expected)
        answers([0, 1, 7, 1, 0, 1, 5])
        self.same(answers([0, 1, 7, 2, 0, 1]), [1, 0, 2, 0, 0])

    def test_answer_is_a_new_list(self):
        answered = answers([0, 1, 7, 2, 8, 1])
        answered.clear()
        self.same(answers([0, 1, 7, 2, 8, 1]), [1, 0, 1, -1])


class Kinds(Case):
    def test_list_of_whole_numbers(self):
        answered = answers(script(12, 100, 64).calls)
        self.assertIs(type(answered), list)
        for number in answered:
            self.assertIs(type(number), int)

    def test_nothing_is_printed(self):
        printed = io.StringIO()
        with contextlib.redirect_stdout(printed), contextlib.redirect_stderr(printed):
            answers(script(13, 100, 64).calls)
        self.assertEqual(printed.getvalue(), "")

    def test_few_calls_within_one_another(self):
        """What is as long as the list or one of its rows is gone through by loops."""
        made = script(14, 100, 64)
        row = [255] * 512
        calls = made.calls + begin(WORD - 1, 1) + put(0, 2, 1) + power(0, 0, row) + get(0, 1)
        expected = made.expected + [1, 0, 1, 0, 1, 0, 2, 0, pow(2, number_of_bytes(row), WORD - 1)]
        limit = sys.getrecursionlimit()
        sys.setrecursionlimit(len(inspect.stack(0)) + 30)
        try:
            answered = answers(calls)
        finally:
            sys.setrecursionlimit(limit)
        self.same(answered, expected)

    def test_number_of_no_call(self):
        for number in (-1, 9, 13, 14):
            with self.assertRaises(UnknownCall):
                answers([0, 1, 7, number, 0, 0, 0])


if __name__ == "__main__":
    unittest.main()
