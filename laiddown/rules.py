"""The two rules of answering a row, and what is granted, counted and clashes by what was laid down alone."""

from laiddown.worlds import CONCEDED, DENIED, DOUBTED, answer_by, still_standing


def row_alone(row, laid, known):
    return [answer_by(p, laid, known) for p in row]


def row_along(row, laid, known):
    stand = laid
    given = []
    # One world at least stands at each step: what is so in all that stand is never denied, what is so in none never
    # conceded.
    for p in row:
        answer = answer_by(p, stand, known)
        given.append(answer)
        stand = still_standing(stand, p, answer)
    return given


def places_apart(row, laid, known):
    alone = row_alone(row, laid, known)
    along = row_along(row, laid, known)
    return [place for place in range(len(row)) if alone[place] != along[place]]


# Here none may be left: the answers were not given by what stood by then.
def granted_alone(row, laid, known):
    stand = laid
    for p in row:
        stand = still_standing(stand, p, answer_by(p, laid, known))
    return stand


def counts_alone(every, laid, known):
    given = row_alone(list(range(every + 1)), laid, known)
    return [given.count(CONCEDED), given.count(DENIED), given.count(DOUBTED)]


def two_clash(p, q, laid, known):
    return row_alone([p, q, p & q], laid, known) == [CONCEDED, CONCEDED, DENIED]


def partners(p, every, laid, known):
    return [q for q in range(every + 1) if two_clash(p, q, laid, known)]


def clashing_pairs(every, laid, known):
    # At most half of all propositions are conceded: to leave out the others spares three of four pairs.
    conceded = [p for p in range(every + 1) if answer_by(p, laid, known) == CONCEDED]
    pairs = []
    for place, lesser in enumerate(conceded):
        # Nothing clashes with itself, so the greater one always stands further on.
        for greater in conceded[place + 1:]:
            if answer_by(lesser & greater, laid, known) == DENIED:
                pairs.append((lesser, greater))
    return pairs
