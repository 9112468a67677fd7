"""The calls of one list, one behind another, on one new object."""

from whohearddesk.changes import CHANGES
from whohearddesk.desk import Desk
from whohearddesk.looks import LOOKS
from whohearddesk.news import NEWS
from whohearddesk.order import ORDER
from whohearddesk.refusals import NOT_BEGUN

BEGIN = 0
# How many whole numbers stand behind each call's own, by that number.
ARGUMENTS = (0, 4, 3, 4, 0, 0, 4, 1, 1, 1, 1, 1, 1, 3, 3, 2, 2, 2, 2, 3, 2, 1, 0, 0, 0)


def answers(calls):
    desk = Desk()
    given = []
    place = 0
    while place < len(calls):
        number = calls[place]
        behind = place + 1 + ARGUMENTS[number]
        answer = answer_to(desk, number, calls[place + 1:behind])
        given.append(len(answer))
        given.extend(answer)
        place = behind
    return given


def answer_to(desk, number, told):
    if desk.state is None and number != BEGIN:
        return [NOT_BEGUN]
    if number in CHANGES:
        return call_with(CHANGES[number], desk, told)
    if number in LOOKS:
        return call_with(LOOKS[number], desk, told)
    if number in NEWS:
        return call_with(NEWS[number], desk, told)
    return call_with(ORDER[number], desk, told)


def call_with(call, desk, told):
    if len(told) == 0:
        return call(desk)
    if len(told) == 1:
        return call(desk, told[0])
    if len(told) == 2:
        return call(desk, told[0], told[1])
    if len(told) == 3:
        return call(desk, told[0], told[1], told[2])
    return call(desk, told[0], told[1], told[2], told[3])
