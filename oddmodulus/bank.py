"""The object that the calls are about: an odd modulus and eight registers."""

from oddmodulus.words import number_from_words, words_from_number

PLACES = 8
MOST_WORDS = 64
LEAST_MODULUS = 3

DONE = 0
REFUSED = -1


def is_place(place):
    return 0 <= place < PLACES


def are_places(target, left, right):
    return is_place(target) and is_place(left) and is_place(right)


def is_modulus(number):
    return number >= LEAST_MODULUS and number % 2 == 1


class Bank:
    """Each method answers its call's list of numbers; a refusal is [-1] and changes nothing."""

    def __init__(self):
        # Nothing is asked ahead of the first begin; with 1 as modulus even a stray call finds only 0.
        self.modulus = 1
        self.length = 0
        self.held = [0] * PLACES

    def begin(self, words):
        modulus = number_from_words(words)
        if not 1 <= len(words) <= MOST_WORDS or not is_modulus(modulus):
            return [REFUSED]
        self.modulus = modulus
        # The words handed in count, not those needed: a modulus may have 0 as its highest words.
        self.length = len(words)
        self.held = [0] * PLACES
        return [DONE]

    def put_words(self, place, words):
        if not is_place(place) or len(words) != self.length:
            return [REFUSED]
        return self.hold(place, number_from_words(words))

    def get_words(self, place, length):
        if not is_place(place) or length != self.length:
            return [REFUSED]
        return [DONE] + words_from_number(self.held[place], length)

    def hold_sum(self, target, left, right):
        if not are_places(target, left, right):
            return [REFUSED]
        return self.hold(target, self.held[left] + self.held[right])

    def hold_difference(self, target, left, right):
        if not are_places(target, left, right):
            return [REFUSED]
        return self.hold(target, self.held[left] - self.held[right])

    def hold_product(self, target, left, right):
        if not are_places(target, left, right):
            return [REFUSED]
        return self.hold(target, self.held[left] * self.held[right])

    def hold(self, place, number):
        # Python's remainder by a positive number is never below 0, so a difference needs no care of its own.
        self.held[place] = number % self.modulus
        return [DONE]
