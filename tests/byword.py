"""The document's words, written down again with sets of worlds, to hold the program against."""

from itertools import permutations


def worlds_of(p):
    return {w for w in range(8) if p // 2 ** w % 2 == 1}


def answer_by(p, stand, known):
    """How a proposition is answered by some worlds that stand; all three are sets of worlds."""
    if all(w in p for w in stand):
        return 1
    if not any(w in p for w in stand):
        return 0
    if all(w in p for w in known):
        return 1
    if not any(w in p for w in known):
        return 0
    return 2


def bearing(p, stand):
    if stand <= p:
        return 1
    if stand.isdisjoint(p):
        return 2
    return 0


def alone(p, laid, known):
    p, laid, known = worlds_of(p), worlds_of(laid), worlds_of(known)
    return [answer_by(p, laid, known), bearing(p, laid)]


def alonerow(row, laid, known):
    return [len(row)] + [alone(p, laid, known)[0] for p in row]


def along(row, laid, known):
    stand = worlds_of(laid)
    told = [len(row)]
    for number in row:
        p = worlds_of(number)
        answer = answer_by(p, stand, worlds_of(known))
        if answer == 1:
            stand = {w for w in stand if w in p}
        if answer == 0:
            stand = {w for w in stand if w not in p}
        told.append(answer)
    return told


def parts(row, laid, known):
    one, other = alonerow(row, laid, known), along(row, laid, known)
    places = [i for i in range(len(row)) if one[i + 1] != other[i + 1]]
    return [len(places)] + places


def pairs(every, laid, known):
    """All pairs that clash, the lesser one first, in order."""
    told = [alone(p, laid, known)[0] for p in range(every + 1)]
    return [
        (p, q)
        for p in range(every + 1)
        for q in range(p + 1, every + 1)
        if told[p] == 1 and told[q] == 1 and told[p & q] == 0
    ]


def number_of(worlds):
    return sum(2 ** w for w in worlds)


def partner(p, every, laid, known):
    for q in range(every + 1):
        if [alone(r, laid, known)[0] for r in (p, q, number_of(worlds_of(p) & worlds_of(q)))] == [1, 1, 0]:
            return [q]
    return [-33]


def caught(row, laid, known):
    stand = worlds_of(laid)
    for p in row:
        answer = alone(p, laid, known)[0]
        if answer == 1:
            stand = stand & worlds_of(p)
        if answer == 0:
            stand = stand - worlds_of(p)
    return [len(stand), number_of(stand)]


def in_all_orders(row, laid, known):
    """Each order of the row, in order, with the answers that those at its places get by it."""
    found = []
    for order in sorted(permutations(range(len(row)))):
        told = along([row[place] for place in order], laid, known)[1:]
        found.append((order, [told[order.index(place)] for place in range(len(row))]))
    return found


def ways(row, laid, known):
    found = []
    for order, way in in_all_orders(row, laid, known):
        if way not in found:
            found.append(way)
    return found


def may(i, row, laid, known):
    got = {way[i] for order, way in in_all_orders(row, laid, known)}
    return [1 * (0 in got) + 2 * (1 in got) + 4 * (2 in got)]


def order(i, a, row, laid, known):
    for places, way in in_all_orders(row, laid, known):
        if way[i] == a:
            return [len(row), *places]
    return [-33]


def counts(every, laid, known):
    told = [alone(p, laid, known)[0] for p in range(every + 1)]
    return [told.count(1), told.count(0), told.count(2)]
