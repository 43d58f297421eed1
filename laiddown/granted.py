"""Reads a list of calls, has each one answered, and tells what is answered as one list."""

from laiddown.refusals import NOT_BEGUN, NOT_RIGHT
from laiddown.session import Session

BEGIN = 0
LAY = 1
LEARN = 2
ALONE = 3
ALONEROW = 4
ALONG = 5
PARTS = 6
CLASH = 7
CLASHES = 8
NTH = 9

# By the call's number: how many whole numbers it has ahead of its row, if it has one.
NUMBERS_AHEAD = {0: 3, 1: 1, 2: 1, 3: 1, 4: 0, 5: 0, 6: 0, 7: 2, 8: 0, 9: 1}
WITH_ROW = (4, 5, 6)

LONGEST_ROW = 16


def answers(calls):
    session = Session()
    told = []
    place = 0
    while place < len(calls):
        number = calls[place]
        behind = place + 1 + NUMBERS_AHEAD[number]
        numbers = calls[place + 1:behind]
        row = []
        if number in WITH_ROW:
            row = calls[behind + 1:behind + 1 + calls[behind]]
            behind = behind + 1 + calls[behind]
        answered = answer_call(session, number, numbers, row)
        told.append(len(answered))
        told.extend(answered)
        place = behind
    return told


def answer_call(session, number, numbers, row):
    if number == BEGIN:
        return session.begin(numbers[0], numbers[1], numbers[2])
    if not session.has_begun():
        return [NOT_BEGUN]
    if number == CLASHES:
        return session.clashes()
    if number == NTH:
        return session.nth(numbers[0])
    # Only here: the number of nth is no proposition, and begin brings its own letters.
    if len(row) > LONGEST_ROW or not session.are_propositions(numbers + row):
        return [NOT_RIGHT]
    if number == CLASH:
        return session.clash(numbers[0], numbers[1])
    if number in WITH_ROW:
        return answer_row(session, number, row)
    return answer_proposition(session, number, numbers[0])


def answer_row(session, number, row):
    if number == ALONEROW:
        return session.alonerow(row)
    if number == ALONG:
        return session.along(row)
    return session.parts(row)


def answer_proposition(session, number, p):
    if number == LAY:
        return session.lay(p)
    if number == LEARN:
        return session.learn(p)
    return session.alone(p)
