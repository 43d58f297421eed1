"""Writes calls as the interface tells them, and cuts what is answered into one list a call."""

from laiddown.granted import answers

TOP = 4294967295


def begin(m, k, p):
    return [0, m, k, p]


def lay(p):
    return [1, p]


def learn(k):
    return [2, k]


def alone(p):
    return [3, p]


def alonerow(*props):
    return [4, len(props), *props]


def along(*props):
    return [5, len(props), *props]


def parts(*props):
    return [6, len(props), *props]


def clash(p, q):
    return [7, p, q]


def clashes():
    return [8]


def nth(k):
    return [9, k]


def cut(told):
    """One list a call, out of what answers gives back."""
    found = []
    place = 0
    while place < len(told):
        size = told[place]
        piece = told[place + 1:place + 1 + size]
        if size < 1 or len(piece) != size:
            raise AssertionError(f"a count does not fit at place {place} of {told}")
        found.append(piece)
        place += 1 + size
    return found


def ask(*calls):
    """What each of the calls answers, made on one object one behind another."""
    found = cut(answers([number for call in calls for number in call]))
    if len(found) != len(calls):
        raise AssertionError(f"{len(calls)} calls, but {len(found)} answers")
    return found


def after(start, *calls):
    """What the calls answer behind a first one that is not looked at."""
    return ask(start, *calls)[1:]
