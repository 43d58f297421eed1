"""Reads a list of calls, has each one answered, and tells what is answered as one list."""

from laiddown.refusals import NOT_BEGUN, NOT_RIGHT
from laiddown.session import Session

BEGIN = 0
LAY = 1
LEARN = 2
ALONE = 3
ALONEROW = 4
ALONG = 5
PARTS = 6
CLASH = 7
CLASHES = 8
NTH = 9
PARTNER = 10
CAUGHT = 11
WAYS = 12
WAY = 13
MAY = 14
ORDER = 15
MATTERS = 16
COUNTS = 17
BOUND = 18
STATE = 19

# By the call's number: how many whole numbers it has ahead of its row, if it has one.
NUMBERS_AHEAD = {
    0: 3, 1: 1, 2: 1, 3: 1, 4: 0, 5: 0, 6: 0, 7: 2, 8: 0, 9: 1,
    10: 1, 11: 0, 12: 0, 13: 1, 14: 1, 15: 2, 16: 0, 17: 0, 18: 1, 19: 0,
}
WITH_ROW = (4, 5, 6, 11, 12, 13, 14, 15, 16)
IN_ALL_ORDERS = (12, 13, 14, 15, 16)
# Begin is not among them: it brings its own letters, and these tell what is a proposition.
OF_PROPOSITIONS = (1, 2, 3, 7, 10, 18)

LONGEST_ROW = 16
LONGEST_ROW_IN_ALL_ORDERS = 5


def answers(calls):
    session = Session()
    told = []
    place = 0
    while place < len(calls):
        number = calls[place]
        behind = place + 1 + NUMBERS_AHEAD[number]
        numbers = calls[place + 1:behind]
        row = []
        if number in WITH_ROW:
            row = calls[behind + 1:behind + 1 + calls[behind]]
            behind = behind + 1 + calls[behind]
        answered = answer_call(session, number, numbers, row)
        told.append(len(answered))
        told.extend(answered)
        place = behind
    return told


def answer_call(session, number, numbers, row):
    if number == BEGIN:
        return session.begin(numbers[0], numbers[1], numbers[2])
    if not session.has_begun():
        return [NOT_BEGUN]
    if number in IN_ALL_ORDERS:
        return answer_in_all_orders(session, number, numbers, row)
    if number in WITH_ROW:
        return answer_row(session, number, row)
    if number in OF_PROPOSITIONS:
        return answer_propositions(session, number, numbers)
    if number == NTH:
        return session.nth(numbers[0])
    return answer_bare(session, number)


def answer_bare(session, number):
    if number == CLASHES:
        return session.clashes()
    if number == COUNTS:
        return session.counts()
    return session.state()


def answer_propositions(session, number, props):
    if not session.are_propositions(props):
        return [NOT_RIGHT]
    if number == LAY:
        return session.lay(props[0])
    if number == LEARN:
        return session.learn(props[0])
    if number == ALONE:
        return session.alone(props[0])
    if number == CLASH:
        return session.clash(props[0], props[1])
    if number == PARTNER:
        return session.partner(props[0])
    return session.bound(props[0])


def answer_row(session, number, row):
    if len(row) > LONGEST_ROW or not session.are_propositions(row):
        return [NOT_RIGHT]
    if number == ALONEROW:
        return session.alonerow(row)
    if number == ALONG:
        return session.along(row)
    if number == PARTS:
        return session.parts(row)
    return session.caught(row)


# The numbers ahead of the row are which one, a place, an answer: none of them is a proposition.
def answer_in_all_orders(session, number, numbers, row):
    if len(row) > LONGEST_ROW_IN_ALL_ORDERS or not session.are_propositions(row):
        return [NOT_RIGHT]
    if number == WAYS:
        return session.ways(row)
    if number == WAY:
        return session.way(numbers[0], row)
    if number == MAY:
        return session.may(numbers[0], row)
    if number == ORDER:
        return session.order(numbers[0], numbers[1], row)
    return session.matters(row)
