"""The object that the calls are about: an odd modulus and eight registers."""

from oddmodulus.powers import power_modulo
from oddmodulus.results import ABOVE, BELOW, DONE, LEVEL, NO_ORDER, REFUSED
from oddmodulus.words import is_length, number_from_words, words_from_number

PLACES = 8
LEAST_MODULUS = 3
MOST_TIMES = 4096
MOST_BYTES = 512


def is_place(place):
    return 0 <= place < PLACES


def are_two_places(first, second):
    return is_place(first) and is_place(second)


def are_places(target, left, right):
    return is_place(target) and are_two_places(left, right)


def is_modulus(number):
    return number >= LEAST_MODULUS and number % 2 == 1


class Bank:
    """Each method answers its call's list of numbers; a refusal is one number alone and changes nothing."""

    def __init__(self):
        # Nothing is asked ahead of the first begin; with 1 as modulus even a stray call finds only 0.
        self.modulus = 1
        self.length = 0
        self.held = [0] * PLACES

    def begin(self, words):
        modulus = number_from_words(words)
        if not is_length(len(words)) or not is_modulus(modulus):
            return [REFUSED]
        self.modulus = modulus
        # The words handed in count, not those needed: a modulus may have 0 as its highest words.
        self.length = len(words)
        self.held = [0] * PLACES
        return [DONE]

    def put_words(self, place, words):
        if not is_place(place) or len(words) != self.length:
            return [REFUSED]
        return self.hold(place, number_from_words(words))

    def get_words(self, place, length):
        if not is_place(place) or length != self.length:
            return [REFUSED]
        return [DONE] + words_from_number(self.held[place], length)

    def hold_sum(self, target, left, right):
        if not are_places(target, left, right):
            return [REFUSED]
        return self.hold(target, self.held[left] + self.held[right])

    def hold_difference(self, target, left, right):
        if not are_places(target, left, right):
            return [REFUSED]
        return self.hold(target, self.held[left] - self.held[right])

    def hold_product(self, target, left, right):
        if not are_places(target, left, right):
            return [REFUSED]
        return self.hold(target, self.held[left] * self.held[right])

    def hold_half(self, target, source):
        if not are_two_places(target, source):
            return [REFUSED]
        number = self.held[source]
        # The modulus is odd: added to an odd number it makes an even one that is the same modulo m.
        if number % 2 == 1:
            number = number + self.modulus
        return self.hold(target, number // 2)

    def hold_doubled(self, target, source, times):
        if not are_two_places(target, source) or not 0 <= times <= MOST_TIMES:
            return [REFUSED]
        return self.hold(target, self.held[source] << times)

    def hold_power(self, target, source, exponent):
        if not are_two_places(target, source) or len(exponent) > MOST_BYTES:
            return [REFUSED]
        return self.hold(target, power_modulo(self.held[source], exponent, self.modulus))

    def order(self, left, right):
        if not are_two_places(left, right):
            return [NO_ORDER]
        if self.held[left] < self.held[right]:
            return [BELOW]
        if self.held[left] > self.held[right]:
            return [ABOVE]
        return [LEVEL]

    def hold(self, place, number):
        # Python's remainder by a positive number is never below 0, so a difference needs no care of its own.
        self.held[place] = number % self.modulus
        return [DONE]
