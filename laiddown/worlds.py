"""Sets of worlds, told as numbers, and how a proposition is answered by them."""

WORLDS_BY_LETTERS = {1: 3, 2: 15, 3: 255}

DENIED = 0
CONCEDED = 1
DOUBTED = 2

NO_MATTER = 0
FOLLOWS = 1
AGAINST = 2


# 0 where there can't be so many letters: no set of all worlds is 0.
def all_worlds(letters):
    return WORLDS_BY_LETTERS.get(letters, 0)


def how_many(worlds):
    found = 0
    rest = worlds
    while rest > 0:
        found = found + rest % 2
        rest = rest // 2
    return found


# Of no worlds at all everything would follow and be against them too: there's always one that stands.
def bearing(p, stand):
    shared = p & stand
    if shared == stand:
        return FOLLOWS
    if shared == 0:
        return AGAINST
    return NO_MATTER


# The same numbers tell whether what is laid down is known to be so, known not to be so, or neither.
def answer_by_one_set(p, worlds):
    how = bearing(p, worlds)
    if how == FOLLOWS:
        return CONCEDED
    if how == AGAINST:
        return DENIED
    return DOUBTED


# What is known counts only where p doesn't matter to what stands.
def answer_by(p, stand, known):
    if bearing(p, stand) == NO_MATTER:
        return answer_by_one_set(p, known)
    return answer_by_one_set(p, stand)


def still_standing(stand, p, answer):
    if answer == CONCEDED:
        return stand & p
    if answer == DENIED:
        return stand - (stand & p)
    return stand
