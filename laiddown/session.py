"""The object that the calls are made on: what is known, what was laid down, what is answered."""

from laiddown.refusals import CANNOT_BE, NOT_RIGHT
from laiddown.rules import clashing_pairs, places_apart, row_along, row_alone, two_clash
from laiddown.worlds import all_worlds, answer_by, answer_by_one_set, bearing, how_many


# Each call gives back the list of the numbers that it answers. That there was a begin, and that what is given are
# propositions, is seen to ahead of all calls but begin: these two refusals go before all others.
class Session:
    def __init__(self):
        self.every = 0
        self.known = 0
        self.laid = 0

    def has_begun(self):
        return self.every > 0

    def are_propositions(self, numbers):
        return all([number <= self.every for number in numbers])

    def begin(self, letters, known, laid):
        every = all_worlds(letters)
        if every == 0 or known > every or laid > every or known == 0:
            return [NOT_RIGHT]
        if laid == 0:
            return [CANNOT_BE]
        self.every = every
        self.known = known
        return self.lay(laid)

    def lay(self, p):
        if p == 0:
            return [CANNOT_BE]
        self.laid = p
        return [answer_by_one_set(p, self.known)]

    def learn(self, worlds):
        left = self.known & worlds
        if left == 0:
            return [CANNOT_BE]
        self.known = left
        return [how_many(left)]

    def alone(self, p):
        return [answer_by(p, self.laid, self.known), bearing(p, self.laid)]

    def alonerow(self, row):
        return [len(row)] + row_alone(row, self.laid, self.known)

    def along(self, row):
        return [len(row)] + row_along(row, self.laid, self.known)

    def parts(self, row):
        places = places_apart(row, self.laid, self.known)
        return [len(places)] + places

    def clash(self, p, q):
        if two_clash(p, q, self.laid, self.known):
            return [1]
        return [0]

    def clashes(self):
        return [len(clashing_pairs(self.every, self.laid, self.known))]

    def nth(self, which):
        pairs = clashing_pairs(self.every, self.laid, self.known)
        if which >= len(pairs):
            return [CANNOT_BE]
        return list(pairs[which])
