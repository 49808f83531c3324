"""The way in: a list of calls on one new object, answered call by call."""

from oddmodulus.bank import Bank
from oddmodulus.reader import Reader
from oddmodulus.whole import shifted_words, wide_product

BEGIN = 0
PUT = 1
GET = 2
SUM_OF = 3
DIFFERENCE = 4
PRODUCT = 5
HALF = 6
DOUBLED = 7
POWER = 8
# 9 is no call's number.
ORDER = 10
WIDE = 11
SHIFTED = 12


class UnknownCall(ValueError):
    """A call's number is none of those above."""


def answers(calls):
    bank = Bank()
    reader = Reader(calls)
    answered = []
    while not reader.is_done():
        answer = answer_next(bank, reader)
        answered.append(len(answer))
        answered.extend(answer)
    return answered


def answer_next(bank, reader):
    call = reader.take()
    if call in (BEGIN, PUT, GET):
        return answer_of_words(bank, call, reader)
    if call in (SUM_OF, DIFFERENCE, PRODUCT):
        return answer_of_three(bank, call, reader)
    if call in (HALF, DOUBLED, POWER, ORDER):
        return answer_of_two(bank, call, reader)
    if call in (WIDE, SHIFTED):
        return answer_of_whole(call, reader)
    raise UnknownCall(f"no call has the number {call}")


def answer_of_words(bank, call, reader):
    if call == BEGIN:
        return bank.begin(reader.take_row())
    place = reader.take()
    if call == PUT:
        return bank.put_words(place, reader.take_row())
    return bank.get_words(place, reader.take())


def answer_of_three(bank, call, reader):
    target = reader.take()
    left = reader.take()
    right = reader.take()
    if call == SUM_OF:
        return bank.hold_sum(target, left, right)
    if call == DIFFERENCE:
        return bank.hold_difference(target, left, right)
    return bank.hold_product(target, left, right)


def answer_of_two(bank, call, reader):
    first = reader.take()
    second = reader.take()
    if call == HALF:
        return bank.hold_half(first, second)
    if call == DOUBLED:
        return bank.hold_doubled(first, second, reader.take())
    if call == POWER:
        return bank.hold_power(first, second, reader.take_row())
    return bank.order(first, second)


def answer_of_whole(call, reader):
    if call == WIDE:
        left = reader.take_row()
        return wide_product(left, reader.take_row())
    by = reader.take()
    return shifted_words(reader.take_row(), by)
