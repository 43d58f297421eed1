"""The two rules of answering a row, and the pairs that clash by what was laid down alone."""

from laiddown.worlds import CONCEDED, DENIED, answer_by, still_standing


def row_alone(row, laid, known):
    return [answer_by(p, laid, known) for p in row]


def row_along(row, laid, known):
    stand = laid
    given = []
    for p in row:
        answer = answer_by(p, stand, known)
        given.append(answer)
        stand = still_standing(stand, p, answer)
    return given


def places_apart(row, laid, known):
    alone = row_alone(row, laid, known)
    along = row_along(row, laid, known)
    return [place for place in range(len(row)) if alone[place] != along[place]]


def two_clash(p, q, laid, known):
    return row_alone([p, q, p & q], laid, known) == [CONCEDED, CONCEDED, DENIED]


def clashing_pairs(every, laid, known):
    # At most half of all propositions are conceded: to leave out the others spares three of four pairs.
    conceded = [p for p in range(every + 1) if answer_by(p, laid, known) == CONCEDED]
    pairs = []
    for place, lesser in enumerate(conceded):
        # Nothing clashes with itself, so the greater one always stands further on.
        for greater in conceded[place + 1:]:
            if answer_by(lesser & greater, laid, known) == DENIED:
                pairs.append((lesser, greater))
    return pairs
