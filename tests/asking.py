"""Writes calls as the interface tells them, and cuts what is answered into one list a call."""

from laiddown.granted import answers

TOP = 4294967295


def begin(m, k, p):
    return [0, m, k, p]


def lay(p):
    return [1, p]


def learn(k):
    return [2, k]


def alone(p):
    return [3, p]


def alonerow(*props):
    return [4, len(props), *props]


def along(*props):
    return [5, len(props), *props]


def parts(*props):
    return [6, len(props), *props]


def clash(p, q):
    return [7, p, q]


def clashes():
    return [8]


def nth(k):
    return [9, k]


def partner(p):
    return [10, p]


def caught(*props):
    return [11, len(props), *props]


def ways(*props):
    return [12, len(props), *props]


def way(k, *props):
    return [13, k, len(props), *props]


def may(i, *props):
    return [14, i, len(props), *props]


def order(i, a, *props):
    return [15, i, a, len(props), *props]


def matters(*props):
    return [16, len(props), *props]


def counts():
    return [17]


def bound(p):
    return [18, p]


def state():
    return [19]


def cut(told):
    """One list a call, out of what answers gives back."""
    found = []
    place = 0
    while place < len(told):
        size = told[place]
        piece = told[place + 1:place + 1 + size]
        if size < 1 or len(piece) != size:
            raise AssertionError(f"a count does not fit at place {place} of {told}")
        found.append(piece)
        place += 1 + size
    return found


def ask(*calls):
    """What each of the calls answers, made on one object one behind another."""
    found = cut(answers([number for call in calls for number in call]))
    if len(found) != len(calls):
        raise AssertionError(f"{len(calls)} calls, but {len(found)} answers")
    return found


def after(start, *calls):
    """What the calls answer behind a first one that is not looked at."""
    return ask(start, *calls)[1:]


def hold_against(test, start, calls, asked):
    """Holds what many calls answer against what is asked, one by one: long lists that differ take long to compare."""
    for call, told, due in zip(calls, after_many(start, calls), asked, strict=True):
        test.assertEqual(told, due, (start, call))


def after_many(start, calls):
    """What calls answer behind a first one, however many they are: each list of them has at most 45."""
    found = []
    for first in range(0, len(calls), 44):
        found += after(start, *calls[first:first + 44])
    return found
