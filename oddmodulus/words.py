"""Whole numbers as rows of 64-bit words, the lowest first."""

WORD_BITS = 64
GREATEST_WORD = 18446744073709551615


def number_from_words(words):
    number = 0
    for word in reversed(words):
        number = (number << WORD_BITS) | word
    return number


def words_from_number(number, length):
    return [(number >> (WORD_BITS * place)) & GREATEST_WORD for place in range(length)]
