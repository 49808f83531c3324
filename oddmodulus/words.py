"""Whole numbers as rows of 64-bit words, the lowest first."""

WORD_BITS = 64
GREATEST_WORD = 18446744073709551615
MOST_WORDS = 64


def is_length(length):
    return 1 <= length <= MOST_WORDS


def number_from_words(words):
    number = 0
    for word in reversed(words):
        number = (number << WORD_BITS) | word
    return number


def words_from_number(number, length):
    """The lowest words, so many; bits past them are dropped."""
    return [(number >> (WORD_BITS * place)) & GREATEST_WORD for place in range(length)]
