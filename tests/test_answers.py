"""The interface: oddmodulus.registers.answers over lists of several calls."""

import contextlib
import io
import unittest

from oddmodulus.registers import UnknownCall, answers
from tests.calls import ARITHMETIC, NOT_REGISTERS, WORD, Case, Numbers, begin, get, product, put, sum_of, words


class Script:
    """A list of calls of every kind, taken and refused, beside the answers that the document asks for."""

    def __init__(self, seed, most_words):
        self.numbers = Numbers(seed)
        self.most_words = most_words
        self.calls = []
        self.expected = []
        self.begin_taken()

    def say(self, call, answer):
        self.calls.extend(call)
        self.expected.extend([len(answer)] + answer)

    def begin_taken(self):
        self.n = 1 + self.numbers.below(self.most_words)
        self.m = self.numbers.modulus(1 + self.numbers.below(self.n))
        self.held = {r: 0 for r in range(8)}
        self.say(begin(self.m, self.n), [0])

    def begin_refused(self):
        n = 1 + self.numbers.below(self.most_words)
        self.say(self.numbers.pick([[0, 0], begin(1, n), begin(self.numbers.modulus(n) - 1, n)]), [-1])

    def place(self):
        if self.numbers.below(12) == 0:
            return self.numbers.pick(NOT_REGISTERS)
        return self.numbers.below(8)

    def length(self):
        if self.numbers.below(12) == 0:
            return self.numbers.below(65)
        return self.n

    def put_some(self):
        r, n = self.place(), self.length()
        x = self.numbers.below(WORD ** n)
        taken = r in self.held and n == self.n
        if taken:
            self.held[r] = x % self.m
        self.say(put(r, x, n), [0] if taken else [-1])

    def get_some(self):
        r, n = self.place(), self.length()
        taken = r in self.held and n == self.n
        self.say(get(r, n), [0] + words(self.held[r], n) if taken else [-1])

    def reckon(self):
        call, meant = self.numbers.pick(ARITHMETIC)
        d, a, b = self.place(), self.place(), self.place()
        taken = d in self.held and a in self.held and b in self.held
        if taken:
            self.held[d] = meant(self.held[a], self.held[b]) % self.m
        self.say(call(d, a, b), [0] if taken else [-1])

    def step(self):
        chance = self.numbers.below(40)
        if chance == 0:
            self.begin_taken()
        elif chance == 1:
            self.begin_refused()
        elif chance < 14:
            self.put_some()
        elif chance < 24:
            self.get_some()
        else:
            self.reckon()


def script(seed, calls, most_words):
    made = Script(seed, most_words)
    for _ in range(calls - 1):
        made.step()
    return made


class Unchanging(list):
    """A list that can't be changed, not for a while either."""

    def refuse(self, *args, **kwargs):
        raise AssertionError("the list handed in was changed")

    __setitem__ = __delitem__ = __iadd__ = __imul__ = refuse
    append = clear = extend = insert = pop = remove = reverse = sort = refuse


class Lists(Case):
    def test_written_out(self):
        calls = [
            0, 2, 1, 1,
            1, 0, 2, 0, 1,
            1, 1, 2, 2, 0,
            3, 2, 0, 1,
            2, 2, 2,
            4, 3, 2, 8,
            2, 3, 2,
            5, 3, 0, 0,
            2, 3, 2,
            2, 3, 1,
            0, 0,
            0, 1, 5,
            2, 3, 1,
        ]
        expected = [
            1, 0,
            1, 0,
            1, 0,
            1, 0,
            3, 0, 1, 0,
            1, -1,
            3, 0, 0, 0,
            1, 0,
            3, 0, 1, 0,
            1, -1,
            1, -1,
            1, 0,
            2, 0, 0,
        ]
        self.same(answers(calls), expected)

    def test_one_call(self):
        self.same(answers([0, 1, 3]), [1, 0])

    def test_up_to_100_calls(self):
        for calls in range(1, 101):
            made = script(calls, calls, 8)
            self.same(answers(made.calls), made.expected)

    def test_100_calls_with_up_to_64_words(self):
        for seed in range(1000, 1040):
            made = script(seed, 100, 64)
            self.same(answers(made.calls), made.expected)

    def test_100_calls_of_64_words_each(self):
        m = WORD ** 64 - 1
        calls = begin(m, 64)
        expected = [1, 0]
        for step in range(49):
            x = m - 1 - step
            calls = calls + put(step % 8, x, 64) + get(step % 8, 64)
            expected = expected + [1, 0, 65, 0] + words(x, 64)
        calls = calls + get(7, 64)
        expected = expected + [65, 0] + words(m - 1 - 47, 64)
        self.same(answers(calls), expected)

    def test_results_are_gone_on_with(self):
        m = 1000003
        # Few squarings: numbers that are not kept below m would soon fill the memory instead of failing.
        calls = begin(m, 1) + put(0, 2, 1) + product(0, 0, 0) * 20 + sum_of(0, 0, 0) * 77 + get(0, 1)
        expected = [1, 0] * 99 + [2, 0, pow(2, 2 ** 20, m) * 2 ** 77 % m]
        self.same(answers(calls), expected)


class Kept(Case):
    def test_list_handed_in_is_the_same_afterwards(self):
        made = script(7, 100, 64)
        before = list(made.calls)
        answers(made.calls)
        self.same(made.calls, before)

    def test_list_handed_in_is_not_changed_for_a_while(self):
        made = script(8, 100, 64)
        self.same(answers(Unchanging(made.calls)), made.expected)

    def test_asked_twice(self):
        made = script(9, 100, 16)
        self.same(answers(made.calls), answers(made.calls))

    def test_nothing_stays_from_another_list(self):
        first = script(10, 100, 16)
        second = script(11, 100, 16)
        for made in (first, second, first, second):
            self.same(answers(made.calls), made.expected)
        answers([0, 1, 7, 1, 0, 1, 5])
        self.same(answers([0, 1, 7, 2, 0, 1]), [1, 0, 2, 0, 0])

    def test_answer_is_a_new_list(self):
        answered = answers([0, 1, 7, 2, 8, 1])
        answered.clear()
        self.same(answers([0, 1, 7, 2, 8, 1]), [1, 0, 1, -1])


class Kinds(Case):
    def test_list_of_whole_numbers(self):
        answered = answers(script(12, 100, 64).calls)
        self.assertIs(type(answered), list)
        for number in answered:
            self.assertIs(type(number), int)

    def test_nothing_is_printed(self):
        printed = io.StringIO()
        with contextlib.redirect_stdout(printed), contextlib.redirect_stderr(printed):
            answers(script(13, 100, 64).calls)
        self.assertEqual(printed.getvalue(), "")

    def test_number_of_no_call(self):
        for number in (-1, 9, 13):
            with self.assertRaises(UnknownCall):
                answers([0, 1, 7, number, 0, 0, 0])


if __name__ == "__main__":
    unittest.main()
