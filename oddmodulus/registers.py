"""The way in: a list of calls on one new object, answered call by call."""

from oddmodulus.bank import Bank
from oddmodulus.reader import Reader

BEGIN = 0
PUT = 1
GET = 2
SUM_OF = 3
DIFFERENCE = 4
PRODUCT = 5


class UnknownCall(ValueError):
    """A call's number is none of those above."""


def answers(calls):
    bank = Bank()
    reader = Reader(calls)
    answered = []
    while not reader.is_done():
        answer = answer_next(bank, reader)
        answered.append(len(answer))
        answered.extend(answer)
    return answered


def answer_next(bank, reader):
    call = reader.take()
    if call == BEGIN:
        return bank.begin(reader.take_row())
    if call == PUT:
        place = reader.take()
        return bank.put_words(place, reader.take_row())
    if call == GET:
        place = reader.take()
        return bank.get_words(place, reader.take())
    return answer_of_three(bank, call, reader)


def answer_of_three(bank, call, reader):
    # Without this check an unknown call's numbers would be taken for three registers.
    if call not in (SUM_OF, DIFFERENCE, PRODUCT):
        raise UnknownCall(f"no call has the number {call}")
    target = reader.take()
    left = reader.take()
    right = reader.take()
    if call == SUM_OF:
        return bank.hold_sum(target, left, right)
    if call == DIFFERENCE:
        return bank.hold_difference(target, left, right)
    return bank.hold_product(target, left, right)
