"""The object that the calls are made on: what is known, what was laid down, what is answered."""

from laiddown.orders import answers_as_set, first_orders_by_way
from laiddown.refusals import CANNOT_BE, NOT_RIGHT
from laiddown.rules import clashing_pairs, partners, two_clash
from laiddown.rules import counts_alone, granted_alone, places_apart, row_alone, row_along
from laiddown.worlds import DOUBTED, NO_MATTER, all_worlds, answer_by, answer_by_one_set, bearing, how_many


# Each call gives back the list of the numbers that it answers. That there was a begin, that what is given are
# propositions, and that a row is not too long, is seen to ahead of all calls but begin: these refusals go before all
# others.
class Session:
    def __init__(self):
        self.letters = 0
        self.every = 0
        self.known = 0
        self.laid = 0

    def has_begun(self):
        return self.letters > 0

    def are_propositions(self, numbers):
        return all([number <= self.every for number in numbers])

    def begin(self, letters, known, laid):
        every = all_worlds(letters)
        if every == 0 or known > every or laid > every or known == 0:
            return [NOT_RIGHT]
        if laid == 0:
            return [CANNOT_BE]
        self.letters = letters
        self.every = every
        self.known = known
        return self.lay(laid)

    def lay(self, p):
        if p == 0:
            return [CANNOT_BE]
        self.laid = p
        return [answer_by_one_set(p, self.known)]

    def learn(self, worlds):
        left = self.known & worlds
        if left == 0:
            return [CANNOT_BE]
        self.known = left
        return [how_many(left)]

    def alone(self, p):
        return [answer_by(p, self.laid, self.known), bearing(p, self.laid)]

    def alonerow(self, row):
        return [len(row)] + row_alone(row, self.laid, self.known)

    def along(self, row):
        return [len(row)] + row_along(row, self.laid, self.known)

    def parts(self, row):
        places = places_apart(row, self.laid, self.known)
        return [len(places)] + places

    def clash(self, p, q):
        if two_clash(p, q, self.laid, self.known):
            return [1]
        return [0]

    def clashes(self):
        return [len(clashing_pairs(self.every, self.laid, self.known))]

    def nth(self, which):
        pairs = clashing_pairs(self.every, self.laid, self.known)
        if which >= len(pairs):
            return [CANNOT_BE]
        return list(pairs[which])

    def partner(self, p):
        found = partners(p, self.every, self.laid, self.known)
        if len(found) == 0:
            return [CANNOT_BE]
        return [found[0]]

    def caught(self, row):
        stand = granted_alone(row, self.laid, self.known)
        return [how_many(stand), stand]

    def ways(self, row):
        return [len(first_orders_by_way(row, self.laid, self.known))]

    def way(self, which, row):
        found = list(first_orders_by_way(row, self.laid, self.known))
        if which >= len(found):
            return [CANNOT_BE]
        return [len(row)] + list(found[which])

    def may(self, place, row):
        if place >= len(row):
            return [NOT_RIGHT]
        found = list(first_orders_by_way(row, self.laid, self.known))
        return [answers_as_set([way[place] for way in found])]

    def order(self, place, answer, row):
        if place >= len(row) or answer > DOUBTED:
            return [NOT_RIGHT]
        found = first_orders_by_way(row, self.laid, self.known)
        for way, first_order in found.items():
            if way[place] == answer:
                return [len(row)] + list(first_order)
        return [CANNOT_BE]

    def matters(self, row):
        if len(first_orders_by_way(row, self.laid, self.known)) == 1:
            return [0]
        return [1]

    def counts(self):
        return counts_alone(self.every, self.laid, self.known)

    def bound(self, p):
        if bearing(p, self.laid) == NO_MATTER:
            return [0]
        return [1]

    def state(self):
        return [self.letters, self.known, self.laid]
