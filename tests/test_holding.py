"""Point 5: what holds over the whole program."""

import unittest
from itertools import combinations_with_replacement, permutations, product

from asking import (
    TOP, after, after_many, alone, alonerow, along, begin, bound, caught, clash, clashes, counts, hold_against, lay,
    learn, matters, may, nth, order, partner, parts, state, way, ways,
)

CHOSEN_WITH_THREE = ((1, 254), (1, 255), (1, 14), (128, 3), (3, 252), (3, 6), (15, 240), (7, 248), (6, 150), (85, 170),
                     (255, 254), (240, 255), (9, 8), (8, 8), (1, 128))


def starts():
    """Whatever is known and laid down with one and two letters, and chosen cases with three: m, all worlds, k, p."""
    found = [(1, 3, k, p) for k, p in product(range(1, 4), repeat=2)]
    found += [(2, 15, k, p) for k, p in product(range(1, 16), repeat=2)]
    return found + [(3, 255, k, p) for k, p in CHOSEN_WITH_THREE]


def kinds_of_starts():
    """With two letters, of the starts that are the same but for the worlds' numbers one each."""
    found = {}
    for k, p in product(range(1, 16), repeat=2):
        kind = tuple(bin(worlds).count("1") for worlds in (k & p, k & ~p, p & ~k))
        found.setdefault(kind, (k, p))
    return list(found.values())


def chosen_rows(k, p, every, longest):
    return [[(a * 37 + k * b + b * b * 11 + p) % (every + 1) for b in range(longest)] for a in range(6)]


class SomeClash(unittest.TestCase):
    def test_just_if_known_not_to_be_so_and_so_in_more_worlds_than_one(self):
        for m, every, k, p in starts():
            some = k & p == 0 and bin(p).count("1") > 1
            told = after(begin(m, k, p), clashes(), nth(0))
            self.assertEqual(told[0][0] > 0, some, (m, k, p))
            self.assertEqual(told[1] != [-33], some, (m, k, p))

    def test_likewise_by_partner(self):
        for m, every, k, p in starts():
            some = k & p == 0 and bin(p).count("1") > 1
            told = after_many(begin(m, k, p), [partner(q) for q in range(every + 1)])
            self.assertEqual(any(piece != [-33] for piece in told), some, (m, k, p))

    def test_likewise_by_lay_and_learn(self):
        # Behind lay(12) these clash: 7 with 11, and each of them with 12.
        self.assertEqual(
            after(begin(2, 15, 14), clashes(), learn(3), clashes(), lay(12), clashes(), lay(4), clashes(), lay(6),
                  clashes(), learn(1), clashes()),
            [[0], [2], [0], [0], [3], [0], [0], [2], [0], [1], [12]])


class WhereItMayBeSo(unittest.TestCase):
    def test_nobody_is_caught(self):
        # Who isn't caught by all that there are isn't by some of them.
        for m, every, k, p in starts():
            if m < 3 and k & p:
                self.assertGreater(after(begin(m, k, p), caught(*range(every + 1)))[0][0], 0, (m, k, p))

    def test_nobody_is_caught_with_three_letters(self):
        for k, p in CHOSEN_WITH_THREE:
            if k & p:
                rows = [range(first, first + 16) for first in range(0, 256, 16)] + chosen_rows(k, p, 255, 16)
                for told in after(begin(3, k, p), *[caught(*row) for row in rows]):
                    # The worlds that may be so always stand.
                    self.assertEqual(told[1] & k & p, k & p, (k, p))
                    self.assertGreater(told[0], 0, (k, p))

    def test_else_one_may_be_caught(self):
        for m, every, k, p in starts():
            if m == 2 and k & p == 0 and bin(p).count("1") > 1:
                self.assertEqual(after(begin(m, k, p), caught(*range(16))), [[0, 0]], (k, p))

    def check_never_both(self, m, k, p, rows):
        calls = [may(place, *row) for row in rows for place in range(len(row))]
        for call, told in zip(calls, after_many(begin(m, k, p), calls)):
            self.assertIn(told, ([1], [2], [4], [5], [6]), (m, k, p, call))

    def test_nothing_conceded_in_one_order_is_denied_in_another_one(self):
        for k, p in product(range(1, 4), repeat=2):
            if k & p:
                self.check_never_both(1, k, p, list(combinations_with_replacement(range(4), 5)))
        for k, p in product(range(1, 16), repeat=2):
            if k & p:
                self.check_never_both(2, k, p, [[q, (q * k + p) % 16] for q in range(16)])

    def test_nor_in_any_row_of_three_with_two_letters(self):
        for k, p in kinds_of_starts():
            if k & p:
                self.check_never_both(2, k, p, list(combinations_with_replacement(range(16), 3)))

    def test_nor_with_three_letters(self):
        for k, p in CHOSEN_WITH_THREE:
            if k & p:
                self.check_never_both(3, k, p, chosen_rows(k, p, 255, 5))

    def test_else_it_may_be(self):
        self.assertEqual(after(begin(2, 1, 14), may(0, 5, 3), order(0, 1, 5, 3), order(0, 0, 5, 3)),
                         [[3], [2, 0, 1], [2, 1, 0]])


class BothRules(unittest.TestCase):
    def check(self, m, k, p, rows):
        calls = []
        for row in rows:
            calls += [alonerow(*row), along(*row), parts(*row)] + [bound(q) for q in row]
        told = after_many(begin(m, k, p), calls)
        for row in rows:
            by_one, by_other, apart = told[0][1:], told[1][1:], told[2][1:]
            free = [piece == [0] for piece in told[3:3 + len(row)]]
            told = told[3 + len(row):]
            self.assertEqual(by_one[:1], by_other[:1], (m, k, p, row))
            for place in apart:
                behind = [i for i in range(place) if free[i] and by_other[i] in (0, 1)]
                self.assertNotEqual(behind, [], (m, k, p, row, place))

    def test_one_and_two_letters(self):
        for k, p in product(range(1, 4), repeat=2):
            self.check(1, k, p, list(product(range(4), repeat=3)))
        for k, p in product(range(1, 16), repeat=2):
            self.check(2, k, p, chosen_rows(k, p, 15, 9))

    def test_every_two_with_two_letters(self):
        for k, p in kinds_of_starts():
            self.check(2, k, p, list(product(range(16), repeat=2)))

    def test_three_letters(self):
        for k, p in CHOSEN_WITH_THREE:
            self.check(3, k, p, chosen_rows(k, p, 255, 16))

    def test_they_do_part_behind_such_a_one(self):
        self.assertEqual(after(begin(2, 1, 14), bound(5), alone(5), parts(5, 3), bound(10), alone(10), parts(10, 3)),
                         [[0], [1, 0], [1, 1], [0], [0, 0], [1, 1]])


class AllFollowOrAreAgainstIt(unittest.TestCase):
    def check(self, m, k, p, every, rows_of):
        told = after_many(begin(m, k, p), [bound(q) for q in range(every + 1)])
        row_of_bound = [q for q in range(every + 1) if told[q] == [1]]
        rows = rows_of(row_of_bound)
        calls = [call for row in rows for call in (matters(*row), ways(*row))]
        hold_against(self, begin(m, k, p), calls, [[0], [1]] * len(rows))

    def test_one_and_two_letters(self):
        for m, every, k, p in starts():
            if m < 3:
                self.check(m, k, p, every, lambda row: [row[:5], row[-5:], row[::2][:5], row[1::2][:5]])

    def test_every_three_with_two_letters(self):
        for k, p in kinds_of_starts():
            self.check(2, k, p, 15, lambda row: list(combinations_with_replacement(row, 3)))

    def test_three_letters(self):
        for k, p in CHOSEN_WITH_THREE:
            self.check(3, k, p, 255, lambda row: [row[:5], row[-5:], row[len(row) // 2 - 2:][:5]])

    def test_another_one_among_them_is_free(self):
        self.assertEqual(after(begin(2, 1, 14), matters(14, 15, 0, 1), matters(14, 5, 0, 3)), [[0], [1]])


class Alone(unittest.TestCase):
    def test_the_order_never_matters(self):
        # What stands ahead of the promises: by what was laid down alone it never does.
        for k, p in ((1, 14), (3, 12), (3, 6)):
            row = [5, 3, 12, 10]
            one = after(begin(2, k, p), alonerow(*row))[0][1:]
            for places in permutations(range(4)):
                self.assertEqual(after(begin(2, k, p), alonerow(*[row[place] for place in places])),
                                 [[4] + [one[place] for place in places]])

    def test_both_parts_may_be_granted_and_the_whole_denied(self):
        self.assertEqual(after(begin(2, 1, 14), alone(5), alone(3), alone(5 & 3)), [[1, 0], [1, 0], [0, 2]])


REFUSED = [
    (begin(0, 2, 2), -22), (begin(4, 2, 2), -22), (begin(3, 0, 2), -22), (begin(3, 2, 256), -22), (begin(3, 2, 0), -33),
    (lay(16), -22), (lay(0), -33), (learn(16), -22), (learn(12), -33), (learn(0), -33), (alone(16), -22),
    (alonerow(16), -22), (alonerow(*[5] * 17), -22), (along(5, 16), -22), (along(*[5] * 17), -22),
    (parts(5, 3, 16), -22), (parts(*[5] * 255), -22), (clash(16, 3), -22), (clash(3, 16), -22), (nth(TOP), -33),
    (partner(16), -22), (partner(0), -33), (caught(5, 16), -22), (caught(*[5] * 17), -22), (ways(16), -22),
    (ways(*[5] * 6), -22), (way(0, 16), -22), (way(TOP, 5), -33), (way(0, *[5] * 6), -22), (may(0), -22),
    (may(1, 5), -22), (may(0, 16), -22), (may(0, *[5] * 6), -22), (order(1, 0, 5), -22), (order(0, 3, 5), -22),
    (order(0, 0, 16), -22), (order(0, 0, *[5] * 6), -22), (order(0, 2, 15), -33), (matters(16), -22),
    (matters(*[5] * 6), -22), (bound(16), -22), (bound(TOP), -22),
]
SHOWN = [state(), counts(), clashes(), alonerow(5, 3, 12), along(5, 3, 12), ways(5, 3, 12), way(0, 5, 3, 12),
         caught(5, 3, 12), learn(15), lay(15), state()]


class WhatIsRefused(unittest.TestCase):
    def test_changes_nothing(self):
        for k, p in ((3, 12), (3, 14), (1, 14)):
            asked = after(begin(2, k, p), *SHOWN)
            self.assertEqual(asked[0], [2, k, p])
            for call, number in REFUSED:
                self.assertEqual(after(begin(2, k, p), call, *SHOWN), [[number]] + asked, call)

    def test_many_behind_one_another_neither(self):
        asked = after(begin(2, 3, 12), *SHOWN)
        for first in range(0, len(REFUSED), 20):
            some = REFUSED[first:first + 20]
            self.assertEqual(after(begin(2, 3, 12), *[call for call, number in some], *SHOWN),
                             [[number] for call, number in some] + asked)


if __name__ == "__main__":
    unittest.main()
