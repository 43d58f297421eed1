"""Point 2, of what clashes with one, and of being caught: partner, caught."""

import unittest
from itertools import product

import byword
from asking import (
    TOP, after, along, alonerow, begin, caught, clash, clashes, counts, hold_against, lay, learn, nth, partner, state,
)


class Partner(unittest.TestCase):
    def test_one_letter_never(self):
        for k, p in product(range(1, 4), repeat=2):
            self.assertEqual(after(begin(1, k, p), *[partner(q) for q in range(4)]), [[-33]] * 4)

    def test_two_letters_every_proposition(self):
        # Laid down: a or b. Known: neither.
        asked = {3: 5, 5: 3, 7: 9, 9: 3, 11: 5, 13: 3, 14: 3}
        self.assertEqual(after(begin(2, 1, 14), *[partner(p) for p in range(16)]),
                         [[asked.get(p, -33)] for p in range(16)])
        # Laid down: one of a and b, not both. Known: neither.
        asked = {3: 5, 5: 3, 6: 3, 11: 5, 13: 3, 14: 3}
        self.assertEqual(after(begin(2, 1, 6), *[partner(p) for p in range(16)]),
                         [[asked.get(p, -33)] for p in range(16)])

    def test_three_letters(self):
        # Laid down: one of the three. Known: none of them.
        self.assertEqual(after(begin(3, 1, 254), partner(17), partner(3), partner(254), partner(255), partner(16)),
                         [[3], [5], [3], [-33], [-33]])
        # Laid down: c. Known: not c.
        self.assertEqual(after(begin(3, 15, 240), partner(240), partner(31), partner(47), partner(241), partner(15)),
                         [[31], [47], [31], [-33], [-33]])

    def test_it_clashes_and_none_below_does(self):
        self.assertEqual(after(begin(2, 1, 14), partner(7), clash(7, 9), *[clash(7, q) for q in range(9)]),
                         [[9], [1]] + [[0]] * 9)

    def test_so_always_and_never(self):
        for m, every in ((1, 3), (2, 15), (3, 255)):
            for k, p in product((1, 2, every), (1, 2, every - 1, every)):
                self.assertEqual(after(begin(m, k, p), partner(every), partner(0)), [[-33], [-33]])

    def test_none_where_nothing_clashes(self):
        # Laid down: what is so in one world, what is known to be so, what may be so.
        for start in (begin(2, 1, 4), begin(2, 3, 7), begin(2, 3, 6), begin(2, 15, 15)):
            self.assertEqual(after(start, *[partner(p) for p in range(16)]), [[-33]] * 16, start)

    def test_two_that_clash_with_nothing(self):
        self.assertEqual(after(begin(2, 1, 14), partner(15), partner(1), clash(15, 1)), [[-33], [-33], [0]])

    def test_not_a_proposition(self):
        for m, every in ((1, 3), (2, 15), (3, 255)):
            self.assertEqual(after(begin(m, 1, 2), partner(every + 1), partner(TOP), partner(every)),
                             [[-22], [-22], [-33]])

    def test_by_what_was_laid_down_and_learned_last(self):
        self.assertEqual(after(begin(2, 3, 14), partner(3), learn(1), partner(3), partner(6), lay(6), partner(6)),
                         [[-33], [1], [5], [-33], [0], [3]])

    def test_refused_all_stays(self):
        for refused, number in ((partner(16), -22), (partner(TOP), -22), (partner(0), -33), (partner(15), -33)):
            self.assertEqual(after(begin(2, 1, 14), refused, state(), clashes(), nth(0)),
                             [[number], [2, 1, 14], [12], [3, 5]])


class Caught(unittest.TestCase):
    def test_one_letter(self):
        self.assertEqual(after(begin(1, 1, 3), caught(1), caught(2), caught(3, 0), caught(1, 2, 3, 0)),
                         [[1, 1], [1, 1], [2, 3], [1, 1]])
        self.assertEqual(after(begin(1, 3, 3), caught(1, 2)), [[2, 3]])
        self.assertEqual(after(begin(1, 1, 2), caught(0, 1, 2, 3)), [[1, 2]])

    def test_two_letters(self):
        # Laid down: a or b. Known: neither. Conceded: not a, not b. Denied: a, b, both.
        self.assertEqual(
            after(begin(2, 1, 14), caught(5), caught(10), caught(3), caught(12), caught(8), caught(5, 12),
                  caught(8, 5)),
            [[1, 4], [1, 4], [1, 2], [1, 2], [2, 6], [0, 0], [1, 4]])

    def test_three_letters(self):
        self.assertEqual(
            after(begin(3, 1, 254), caught(85), caught(170), caught(85, 51), caught(85, 204), caught(85, 51, 15),
                  caught(170, 204, 240)),
            [[3, 84], [3, 84], [1, 16], [1, 16], [0, 0], [0, 0]])

    def test_one_is_caught(self):
        self.assertEqual(after(begin(2, 1, 14), caught(5, 3), caught(3, 5), caught(10, 12), caught(5, 15, 3, 5)),
                         [[0, 0]] * 4)

    def test_by_the_other_rule_one_is_not(self):
        self.assertEqual(after(begin(2, 1, 14), alonerow(5, 3), caught(5, 3), along(5, 3), caught(5, 12)),
                         [[2, 1, 1], [0, 0], [2, 1, 0], [0, 0]])

    def test_two_that_clash_with_nothing_else_in_the_row(self):
        self.assertEqual(after(begin(2, 1, 14), clash(3, 5), caught(3, 5)), [[1], [0, 0]])
        # That both are so is denied, but with what was laid down they can stand.
        self.assertEqual(after(begin(2, 1, 14), clash(3, 14), caught(3, 14), caught(3, 14, 2)),
                         [[1], [1, 2], [0, 0]])

    def test_doubted_grants_nothing(self):
        self.assertEqual(after(begin(2, 3, 6), caught(10), caught(5), caught(10, 5, 10), caught(10, 3), caught(5, 4)),
                         [[2, 6], [2, 6], [2, 6], [1, 2], [1, 2]])

    def test_empty(self):
        for m, p, size in ((1, 2, 1), (1, 3, 2), (2, 14, 3), (3, 254, 7), (3, 255, 8)):
            self.assertEqual(after(begin(m, 1, p), caught()), [[size, p]])

    def test_one_that_is_there_twice(self):
        self.assertEqual(after(begin(2, 1, 14), caught(5, 5), caught(10, 10), caught(5, 10)), [[1, 4]] * 3)

    def test_so_always_and_never(self):
        for m, every in ((1, 3), (2, 15), (3, 255)):
            self.assertEqual(after(begin(m, 1, every - 1), caught(every, 0)), after(begin(m, 1, every - 1), caught()))

    def test_laid_down_what_is_so_in_one_world(self):
        for k in (1, 4, 11, 15):
            self.assertEqual(after(begin(2, k, 4), caught(*range(16))), [[1, 4]])

    def test_laid_down_what_is_known_to_be_so(self):
        self.assertEqual(after(begin(2, 3, 7), caught(*range(16)), caught(4), caught(1)), [[2, 3], [2, 3], [3, 7]])

    def test_of_sixteen_and_more(self):
        self.assertEqual(
            after(begin(2, 1, 14), caught(*[5] * 16), caught(*[5] * 17), caught(*[5] * 255), caught(5)),
            [[1, 4], [-22], [-22], [1, 4]])

    def test_with_one_that_is_no_proposition(self):
        for m, every in ((1, 3), (2, 15), (3, 255)):
            for wrong in (every + 1, TOP):
                self.assertEqual(
                    after(begin(m, 1, 1), caught(wrong), caught(1, wrong), caught(wrong, 1), caught(*[1] * 15, wrong),
                          caught(*[1] * 16, wrong), caught(every)),
                    [[-22]] * 5 + [[1, 1]], (m, wrong))

    def test_by_what_was_laid_down_and_learned_last(self):
        self.assertEqual(after(begin(2, 3, 14), caught(5, 3), learn(1), caught(5, 3), lay(4), caught(5, 3)),
                         [[1, 2], [1], [0, 0], [0], [1, 4]])

    def test_answered_or_refused_all_stays(self):
        self.assertEqual(
            after(begin(2, 1, 14), caught(5, 3), caught(16), caught(*[5] * 17), state(), caught(5), along(3), counts()),
            [[0, 0], [-22], [-22], [2, 1, 14], [1, 4], [1, 1], [8, 8, 0]])


class AsTheWordsSay(unittest.TestCase):
    def check(self, m, k, p, every, props, rows):
        calls = [partner(q) for q in props] + [caught(*row) for row in rows]
        asked = [byword.partner(q, every, p, k) for q in props] + [byword.caught(row, p, k) for row in rows]
        hold_against(self, begin(m, k, p), calls, asked)

    def test_one_letter_whatever_is_known_and_laid_down(self):
        for k, p in product(range(1, 4), repeat=2):
            self.check(1, k, p, 3, range(4), list(product(range(4), repeat=3)))

    def test_two_letters_whatever_is_known_and_laid_down(self):
        for k, p in product(range(1, 16), repeat=2):
            self.check(2, k, p, 15, range(16), [[q, (q * k + p) % 16] for q in range(16)] + [list(range(16))])

    def test_three_letters(self):
        for k, p in ((1, 254), (1, 14), (128, 3), (3, 252), (15, 240), (85, 170), (6, 144), (9, 8), (255, 254)):
            props = [(k * 31 + p + a * 41) % 256 for a in range(12)] + [k, p, k | p, 255 - k, 255 - p]
            rows = [[(a * 37 + k * b + b * b + p) % 256 for b in range(a + 1)] for a in range(16)]
            self.check(3, k, p, 255, props, rows)


if __name__ == "__main__":
    unittest.main()
