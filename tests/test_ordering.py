"""Point 3, of a row in all its orders: ways, way, may, order, matters."""

import unittest
from itertools import combinations_with_replacement, product

import byword
from asking import (
    TOP, after, along, begin, counts, hold_against, lay, learn, matters, may, order, state, way, ways,
)

# Laid down: b. Known: not b, perhaps a. The one at place 1 (b, but not a) is denied, so that world 3 is left; the one
# at place 3 (not both) is conceded, so that world 2 is left: whichever of these two comes first settles the other one.
# Those at places 0, 2, 4 are doubted ahead of both, and settled behind the first of them.
FIVE = (5, 4, 10, 7, 6)
FIVE_BEGINS = begin(2, 3, 12)
FIVE_WAYS = [
    ([0, 1, 2, 3, 4], [2, 0, 1, 0, 0]),
    ([0, 2, 1, 3, 4], [2, 0, 2, 0, 0]),
    ([0, 2, 3, 1, 4], [2, 1, 2, 1, 1]),
    ([0, 2, 4, 1, 3], [2, 0, 2, 0, 2]),
    ([0, 2, 4, 3, 1], [2, 1, 2, 1, 2]),
    ([0, 3, 1, 2, 4], [2, 1, 0, 1, 1]),
    ([0, 4, 1, 2, 3], [2, 0, 1, 0, 2]),
    ([0, 4, 3, 1, 2], [2, 1, 0, 1, 2]),
    ([1, 0, 2, 3, 4], [0, 0, 1, 0, 0]),
    ([2, 1, 0, 3, 4], [0, 0, 2, 0, 0]),
    ([2, 3, 0, 1, 4], [1, 1, 2, 1, 1]),
    ([2, 4, 1, 0, 3], [0, 0, 2, 0, 2]),
    ([2, 4, 3, 0, 1], [1, 1, 2, 1, 2]),
    ([3, 0, 1, 2, 4], [1, 1, 0, 1, 1]),
    ([4, 1, 0, 2, 3], [0, 0, 1, 0, 2]),
    ([4, 3, 0, 1, 2], [1, 1, 0, 1, 2]),
]


def all_five(which, place, answer, row):
    """One of each of the five calls on a row."""
    return [ways(*row), way(which, *row), may(place, *row), order(place, answer, *row), matters(*row)]


class WaysAndWay(unittest.TestCase):
    def check(self, start, row, asked):
        calls = [ways(*row)] + [way(k, *row) for k in range(len(asked) + 1)]
        self.assertEqual(after(start, *calls), [[len(asked)]] + [[len(row)] + one for one in asked] + [[-33]])

    def test_one_letter(self):
        self.check(begin(1, 1, 3), [1, 2], [[1, 0]])
        self.check(begin(1, 3, 3), [1, 2, 3, 0], [[2, 2, 1, 0]])
        self.check(begin(1, 1, 2), [1, 2], [[0, 1]])

    def test_two_letters(self):
        # Not a, not b, b: whichever comes first, the last of them is settled by it.
        self.check(begin(2, 1, 14), [5, 3, 12], [[1, 0, 1], [0, 1, 0]])
        self.check(begin(2, 1, 14), [12, 3, 5], [[0, 1, 0], [1, 0, 1]])

    def test_in_the_order_of_their_first_orders(self):
        self.check(begin(2, 3, 12), [4, 5, 7], [[0, 0, 0], [0, 2, 0], [1, 2, 1], [1, 1, 1]])

    def test_three_letters(self):
        # Not a, not b, not c, a, b: two letters are not so, the one that comes last is.
        self.check(begin(3, 1, 254), [85, 51, 15, 170, 204], [[1, 1, 0, 0, 0], [1, 0, 1, 0, 1], [0, 1, 1, 1, 0]])
        self.check(begin(3, 1, 254), [85, 51, 15], [[1, 1, 0], [1, 0, 1], [0, 1, 1]])

    def test_of_five_each_way_in_its_place(self):
        self.check(FIVE_BEGINS, FIVE, [one for first_order, one in FIVE_WAYS])

    def test_each_way_is_what_is_answered_along_its_first_order(self):
        for first_order, one in FIVE_WAYS:
            self.assertEqual(after(FIVE_BEGINS, along(*[FIVE[place] for place in first_order])),
                             [[5] + [one[place] for place in first_order]])

    def test_told_by_places_and_not_by_the_order(self):
        # The second way is got with the one at place 1 first; still the one at place 0 is told first.
        self.check(begin(2, 3, 6), [10, 3], [[2, 1], [1, 1]])

    def test_doubted_first_that_follows_later_and_is_there_twice(self):
        self.check(begin(2, 3, 6), [10, 3, 10], [[2, 1, 1], [2, 1, 2], [1, 1, 1], [1, 1, 2]])

    def test_one_that_is_there_twice(self):
        self.check(begin(2, 1, 14), [5, 5], [[1, 1]])
        self.check(begin(2, 1, 14), [5, 3, 5], [[1, 0, 1], [0, 1, 0]])

    def test_empty(self):
        for m in (1, 2, 3):
            self.check(begin(m, 1, 2), [], [[]])

    def test_of_one(self):
        for p, answer in ((0, 0), (5, 1), (10, 0), (14, 1), (1, 0), (15, 1)):
            self.check(begin(2, 1, 14), [p], [[answer]])
        self.check(begin(3, 17, 254), [240], [[2]])

    def test_laid_down_what_is_so_in_one_world(self):
        self.check(begin(2, 1, 4), [3, 12, 4, 0, 15], [[0, 1, 1, 0, 1]])

    def test_laid_down_what_is_known_to_be_so(self):
        self.check(begin(2, 3, 7), [4, 1, 3, 1], [[0, 2, 1, 2]])

    def test_so_always_and_never(self):
        self.check(begin(2, 1, 14), [15, 0, 5, 15, 0], [[1, 0, 1, 1, 0]])

    def test_none_there(self):
        self.assertEqual(after(FIVE_BEGINS, way(15, *FIVE), way(16, *FIVE), way(17, *FIVE), way(120, *FIVE),
                               way(TOP, *FIVE), way(1), way(TOP), way(1, 5), way(TOP, 5)),
                         [[5, 1, 1, 0, 1, 2]] + [[-33]] * 8)


class MayAndOrder(unittest.TestCase):
    def check(self, start, row, by_answer):
        """For each place: in which order first it is denied, conceded, doubted; None where it never is."""
        for place, orders in enumerate(by_answer):
            set_of_them = sum(count for count, one in zip((1, 2, 4), orders) if one is not None)
            asked = [[-33] if one is None else [len(row)] + one for one in orders]
            self.assertEqual(after(start, may(place, *row), *[order(place, a, *row) for a in range(3)]),
                             [[set_of_them]] + asked, (start, row, place))

    def test_one_letter(self):
        self.check(begin(1, 1, 3), [1, 2], [(None, [0, 1], None), ([0, 1], None, None)])
        self.check(begin(1, 3, 3), [2, 3, 1], [(None, None, [0, 1, 2]), (None, [0, 1, 2], None),
                                               (None, None, [0, 1, 2])])

    def test_two_letters(self):
        first, other = [0, 1, 2], [1, 0, 2]
        self.check(begin(2, 1, 14), [5, 3, 12], [(other, first, None), (first, other, None), (other, first, None)])

    def test_all_three_answers(self):
        self.check(begin(2, 3, 12), [4, 5, 7],
                   [([0, 1, 2], [1, 2, 0], None), ([0, 1, 2], [2, 0, 1], [1, 0, 2]), ([0, 1, 2], [1, 2, 0], None)])

    def test_three_letters(self):
        c_last, b_last, a_last = [0, 1, 2, 3, 4], [0, 2, 1, 3, 4], [1, 2, 0, 3, 4]
        self.check(begin(3, 1, 254), [85, 51, 15, 170, 204],
                   [(a_last, c_last, None), (b_last, c_last, None), (c_last, b_last, None), (c_last, a_last, None),
                    (c_last, b_last, None)])

    def test_of_five(self):
        self.check(FIVE_BEGINS, FIVE, [
            ([1, 0, 2, 3, 4], [2, 3, 0, 1, 4], [0, 1, 2, 3, 4]),
            ([0, 1, 2, 3, 4], [0, 2, 3, 1, 4], None),
            ([0, 3, 1, 2, 4], [0, 1, 2, 3, 4], [0, 2, 1, 3, 4]),
            ([0, 1, 2, 3, 4], [0, 2, 3, 1, 4], None),
            ([0, 1, 2, 3, 4], [0, 2, 3, 1, 4], [0, 2, 4, 1, 3]),
        ])

    def test_doubted_first_that_follows_later(self):
        self.check(begin(2, 3, 6), [10, 3], [(None, [1, 0], [0, 1]), (None, [0, 1], None)])

    def test_doubted_first_that_is_against_it_later(self):
        self.check(begin(2, 3, 6), [5, 3], [([1, 0], None, [0, 1]), (None, [0, 1], None)])

    def test_one_that_is_there_twice(self):
        self.check(begin(2, 3, 6), [10, 3, 10],
                   [(None, [1, 0, 2], [0, 1, 2]), (None, [0, 1, 2], None), (None, [0, 1, 2], [0, 2, 1])])

    def test_of_one(self):
        self.check(begin(2, 1, 14), [5], [(None, [0], None)])
        self.check(begin(2, 1, 14), [10], [([0], None, None)])
        self.check(begin(3, 17, 254), [240], [(None, None, [0])])

    def test_no_such_place(self):
        for row in ([], [5], [5, 3, 12], list(FIVE)):
            for place in (len(row), len(row) + 1, 5, 16, 255, TOP):
                self.assertEqual(after(FIVE_BEGINS, may(place, *row), *[order(place, a, *row) for a in range(3)]),
                                 [[-22]] * 4, (row, place))

    def test_the_last_place(self):
        self.assertEqual(after(FIVE_BEGINS, may(4, *FIVE), order(4, 0, *FIVE)), [[7], [5, 0, 1, 2, 3, 4]])

    def test_no_such_answer(self):
        for a in (3, 4, 7, 255, TOP):
            self.assertEqual(after(FIVE_BEGINS, order(0, a, *FIVE), order(0, a, 5), order(0, a)), [[-22]] * 3, a)


class Matters(unittest.TestCase):
    def test_with_each_number_of_letters(self):
        self.assertEqual(after(begin(1, 1, 3), matters(1, 2), matters(1, 2, 0, 3, 1)), [[0], [0]])
        self.assertEqual(after(begin(2, 1, 14), matters(5, 3, 12), matters(5, 3), matters(5, 10), matters(5, 15, 0)),
                         [[1], [1], [0], [0]])
        self.assertEqual(after(begin(3, 1, 254), matters(85, 51, 15), matters(85, 51), matters(85, 51, 15, 170, 204)),
                         [[1], [0], [1]])

    def test_doubted_first_that_follows_later(self):
        self.assertEqual(after(begin(2, 3, 6), matters(10, 3), matters(3, 10), matters(10, 5)), [[1], [1], [0]])

    def test_empty_and_of_one(self):
        for m, every in ((1, 3), (2, 15), (3, 255)):
            self.assertEqual(after(begin(m, 1, every - 1), matters(), *[matters(p) for p in (0, 1, 2, 3, every)]),
                             [[0]] * 6)

    def test_one_that_is_there_twice(self):
        self.assertEqual(after(begin(2, 1, 14), matters(5, 5), matters(5, 5, 3), matters(3, 3, 3, 3, 3)),
                         [[0], [1], [0]])

    def test_laid_down_what_is_so_in_one_world_or_known_to_be_so(self):
        self.assertEqual(after(begin(2, 1, 4), matters(5, 3, 12, 1, 8)), [[0]])
        self.assertEqual(after(begin(2, 3, 7), matters(4, 1, 3, 1)), [[0]])


class Refused(unittest.TestCase):
    def test_too_long(self):
        for length in (6, 7, 16, 17, 254, 255):
            self.assertEqual(after(begin(2, 1, 14), *all_five(0, 0, 1, [5] * length)), [[-22]] * 5, length)
        self.assertEqual(after(begin(2, 1, 14), *all_five(0, 0, 1, [5] * 5)),
                         [[1], [5, 1, 1, 1, 1, 1], [2], [5, 0, 1, 2, 3, 4], [0]])

    def test_with_one_that_is_no_proposition(self):
        for m, every in ((1, 3), (2, 15), (3, 255)):
            for wrong in (every + 1, TOP):
                for row in ([wrong], [wrong, 1], [1, wrong], [1, 1, 1, 1, wrong], [1, 1, wrong, 1, 1],
                            [1] * 5 + [wrong]):
                    self.assertEqual(after(begin(m, 1, 1), *all_five(0, 0, 1, row)), [[-22]] * 5, (m, row))
            self.assertEqual(after(begin(m, 1, 1), *all_five(0, 0, 1, [every, 1])),
                             [[1], [2, 1, 1], [2], [2, 0, 1], [0]])

    def test_which_one_and_places_and_answers_are_no_propositions(self):
        # With one letter 4 is no proposition, but it is a place of five; and which one may be any number.
        self.assertEqual(
            after(begin(1, 1, 3), may(4, 1, 1, 1, 1, 1), order(4, 1, 1, 1, 1, 1, 1), way(4, 1), way(TOP, 1)),
            [[2], [5, 0, 1, 2, 3, 4], [-33], [-33]])

    def test_of_several_the_first(self):
        for refused in (way(TOP, 16), way(1, *[5] * 6), way(16, *FIVE, 5), way(TOP, *[TOP] * 255),
                        order(0, 1, 16), order(0, 2, *[5] * 6), order(1, 2, 5), order(TOP, 0, 5), order(0, 3, 5),
                        order(TOP, TOP, 5), order(0, 0), order(TOP, TOP, *[TOP] * 255), may(TOP, 16), may(5, *[5] * 6)):
            self.assertEqual(after(begin(2, 1, 14), refused), [[-22]], refused)

    def test_cannot_be(self):
        self.assertEqual(after(begin(2, 1, 14), order(0, 0, 5), order(0, 2, 5), order(1, 2, 5, 3), way(2, 5, 3)),
                         [[-33]] * 4)

    def test_answered_or_refused_all_stays(self):
        shown = [state(), counts(), ways(5, 3, 12), along(3, 5)]
        for call in (all_five(1, 1, 0, [5, 3, 12]) + all_five(0, 0, 0, [16]) + all_five(0, 0, 0, [5] * 6)
                     + [way(TOP, 5, 3), may(2, 5, 3), order(2, 0, 5, 3), order(0, 3, 5, 3), order(0, 2, 5, 3)]):
            self.assertEqual(after(begin(2, 1, 14), call, *shown)[1:], [[2, 1, 14], [8, 8, 0], [2], [2, 1, 0]], call)

    def test_by_what_was_laid_down_and_learned_last(self):
        self.assertEqual(
            after(begin(2, 3, 14), ways(5, 3), way(0, 5, 3), learn(1), ways(5, 3), way(1, 5, 3), lay(4), ways(5, 3),
                  way(0, 5, 3), matters(5, 3)),
            [[2], [2, 2, 1], [1], [2], [2, 0, 1], [0], [1], [2, 1, 0], [0]])


class AsTheWordsSay(unittest.TestCase):
    def check(self, m, k, p, rows):
        calls, asked = [], []
        for row in rows:
            found = byword.ways(row, p, k)
            calls += [ways(*row), matters(*row)] + [way(which, *row) for which in range(len(found) + 1)]
            asked += [[len(found)], [1 if len(found) > 1 else 0]] + [[len(row)] + one for one in found] + [[-33]]
            for place in range(len(row)):
                calls += [may(place, *row)] + [order(place, a, *row) for a in range(3)]
                asked += [byword.may(place, row, p, k)] + [byword.order(place, a, row, p, k) for a in range(3)]
        hold_against(self, begin(m, k, p), calls, asked)

    def test_one_letter_whatever_is_known_and_laid_down(self):
        rows = [[]] + [[p] for p in range(4)] + list(product(range(4), repeat=2))
        for k, p in product(range(1, 4), repeat=2):
            self.check(1, k, p, rows + list(combinations_with_replacement(range(4), 3)))

    def test_two_letters_whatever_is_known_and_laid_down(self):
        for k, p in product(range(1, 16), repeat=2):
            self.check(2, k, p, [[(k * a + p + b * (b + a)) % 16 for b in range(a)] for a in range(4)])

    def test_rows_of_five(self):
        for m, k, p, row in ((2, 3, 12, FIVE), (2, 1, 14, (5, 3, 12, 9, 6)), (2, 3, 6, (10, 5, 3, 10, 12)),
                             (3, 7, 248, (173, 114, 100, 232, 135)), (3, 17, 238, (131, 237, 58, 57, 110)),
                             (3, 3, 212, (149, 240, 141, 180, 141)), (3, 255, 254, (1, 2, 4, 8, 16))):
            self.check(m, k, p, [row])

    def test_three_letters(self):
        for k, p in ((1, 254), (1, 14), (128, 3), (3, 252), (15, 240), (85, 170), (7, 248), (6, 150)):
            self.check(3, k, p, [[(a * 37 + k * b + b * b * 29 + p) % 256 for b in range(a)] for a in range(5)])


if __name__ == "__main__":
    unittest.main()
