"""Products and shifts of rows of words by themselves: no modulus and no register has a part in them."""

from oddmodulus.results import DONE, REFUSED
from oddmodulus.words import WORD_BITS, is_length, number_from_words, words_from_number


def wide_product(left, right):
    length = len(left)
    if not is_length(length):
        return [REFUSED]
    number = number_from_words(left) * number_from_words(right)
    return [DONE] + words_from_number(number, 2 * length)


def shifted_words(words, by):
    length = len(words)
    if not is_length(length):
        return [REFUSED]
    number = shifted_number(number_from_words(words), by, WORD_BITS * length)
    return [DONE] + words_from_number(number, length)


def shifted_number(number, by, bits):
    if by < 0:
        return number >> -by
    # A shift by all the bits drops the whole number already; one by far more would fill the memory.
    return number << min(by, bits)
