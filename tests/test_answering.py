"""Point 2, of single propositions and rows: alone, alonerow, along, parts."""

import unittest
from itertools import product

import byword
from asking import TOP, after, alone, alonerow, along, begin, cut, lay, learn, parts
from laiddown.granted import answers


class Alone(unittest.TestCase):
    def test_one_letter_every_proposition(self):
        every = [alone(p) for p in range(4)]
        self.assertEqual(after(begin(1, 1, 2), *every), [[0, 2], [0, 2], [1, 1], [1, 1]])
        self.assertEqual(after(begin(1, 1, 3), *every), [[0, 2], [1, 0], [0, 0], [1, 1]])
        self.assertEqual(after(begin(1, 3, 3), *every), [[0, 2], [2, 0], [2, 0], [1, 1]])

    def test_two_letters(self):
        # Laid down: a or b. Known: neither. Asked: not a, not b, neither, a, both, a or b.
        self.assertEqual(
            after(begin(2, 1, 14), alone(5), alone(3), alone(1), alone(10), alone(8), alone(14)),
            [[1, 0], [1, 0], [0, 2], [0, 0], [0, 0], [1, 1]])

    def test_three_letters(self):
        # Laid down: one of the three. Known: none of a and b, perhaps c. Asked: not a, c, none, a or b or c.
        self.assertEqual(after(begin(3, 17, 254), alone(85), alone(240), alone(1), alone(254), alone(12)),
                         [[1, 0], [2, 0], [0, 2], [1, 1], [0, 0]])

    def test_so_always_and_never(self):
        for m, every in ((1, 3), (2, 15), (3, 255)):
            for k, p in product((1, every), (1, every)):
                self.assertEqual(after(begin(m, k, p), alone(every), alone(0)), [[1, 1], [0, 2]])

    def test_laid_down_what_is_so_in_one_world(self):
        # Then nothing is beside the matter, whatever is known.
        for k in (1, 2, 11, 15):
            self.assertEqual(after(begin(2, k, 4), *[alone(p) for p in range(16)]),
                             [[1, 1] if p in (4, 5, 6, 7, 12, 13, 14, 15) else [0, 2] for p in range(16)])

    def test_laid_down_what_is_known_to_be_so(self):
        self.assertEqual(after(begin(2, 3, 7), alone(3), alone(4), alone(1), alone(7), alone(8)),
                         [[1, 0], [0, 0], [2, 0], [1, 1], [0, 2]])

    def test_what_follows_goes_before_what_is_known(self):
        self.assertEqual(after(begin(2, 1, 14), alone(14), alone(1)), [[1, 1], [0, 2]])

    def test_wrong_and_changes_nothing(self):
        for m, every in ((1, 3), (2, 15), (3, 255)):
            self.assertEqual(after(begin(m, 1, 1), alone(every + 1), alone(TOP), alone(every)), [[-22], [-22], [1, 1]])


class Rows(unittest.TestCase):
    def all_three(self, start, row):
        return after(start, alonerow(*row), along(*row), parts(*row))

    def test_one_letter(self):
        self.assertEqual(self.all_three(begin(1, 1, 3), [1, 2, 3, 0]), [[4, 1, 0, 1, 0], [4, 1, 0, 1, 0], [0]])
        self.assertEqual(self.all_three(begin(1, 3, 3), [1, 2, 1]), [[3, 2, 2, 2], [3, 2, 2, 2], [0]])

    def test_two_letters(self):
        # Not a is conceded; by the one rule not b is denied then, and b conceded.
        self.assertEqual(self.all_three(begin(2, 1, 14), [5, 3, 12]), [[3, 1, 1, 0], [3, 1, 0, 1], [2, 1, 2]])
        self.assertEqual(self.all_three(begin(2, 1, 14), [3, 5, 12]), [[3, 1, 1, 0], [3, 1, 0, 0], [1, 1]])
        self.assertEqual(self.all_three(begin(2, 1, 14), [12, 3, 5]), [[3, 0, 1, 1], [3, 0, 1, 0], [1, 2]])

    def test_three_letters(self):
        self.assertEqual(self.all_three(begin(3, 1, 254), [85, 51, 15]), [[3, 1, 1, 1], [3, 1, 1, 0], [1, 2]])
        self.assertEqual(self.all_three(begin(3, 1, 254), [170, 204, 240]), [[3, 0, 0, 0], [3, 0, 0, 1], [1, 2]])

    def test_denied_leaves_those_in_which_it_is_not(self):
        # World 2 is denied away, so that of what was laid down but world 1 is left.
        self.assertEqual(self.all_three(begin(2, 1, 6), [4, 2, 13]), [[3, 0, 0, 1], [3, 0, 1, 0], [2, 1, 2]])

    def test_doubted_leaves_all_as_it_is(self):
        self.assertEqual(self.all_three(begin(2, 15, 15), [1, 2, 4, 8, 14]), [[5, 2, 2, 2, 2, 2]] * 2 + [[0]])

    def test_doubted_first_that_follows_later(self):
        self.assertEqual(self.all_three(begin(2, 3, 6), [10, 3, 10]), [[3, 2, 1, 2], [3, 2, 1, 1], [1, 2]])

    def test_doubted_first_that_is_against_it_later(self):
        self.assertEqual(self.all_three(begin(2, 3, 6), [5, 3, 5]), [[3, 2, 1, 2], [3, 2, 1, 0], [1, 2]])

    def test_laid_down_what_is_so_in_one_world(self):
        self.assertEqual(self.all_three(begin(2, 1, 4), [3, 12, 4, 0, 15]), [[5, 0, 1, 1, 0, 1]] * 2 + [[0]])

    def test_laid_down_what_is_known_to_be_so(self):
        self.assertEqual(self.all_three(begin(2, 3, 7), [4, 1, 3, 1]), [[4, 0, 2, 1, 2]] * 2 + [[0]])

    def test_so_always_and_never(self):
        self.assertEqual(self.all_three(begin(2, 1, 14), [15, 0, 5, 15, 0]), [[5, 1, 0, 1, 1, 0]] * 2 + [[0]])

    def test_empty(self):
        for m in (1, 2, 3):
            self.assertEqual(self.all_three(begin(m, 1, 2), []), [[0], [0], [0]])

    def test_of_one(self):
        # What both rules answer first is alike.
        for p in range(16):
            told = self.all_three(begin(2, 1, 14), [p])
            self.assertEqual(told[0], told[1])
            self.assertEqual(told[2], [0])

    def test_one_that_is_there_twice(self):
        self.assertEqual(self.all_three(begin(2, 1, 14), [5, 5]), [[2, 1, 1], [2, 1, 1], [0]])
        self.assertEqual(self.all_three(begin(2, 1, 14), [5, 3, 5, 3]), [[4, 1, 1, 1, 1], [4, 1, 0, 1, 0], [2, 1, 3]])

    def test_a_row_begins_anew_at_what_was_laid_down(self):
        self.assertEqual(after(begin(2, 1, 14), along(5), along(3), alone(3), along(3, 5), along(5, 3)),
                         [[1, 1], [1, 1], [1, 0], [2, 1, 0], [2, 1, 0]])

    def test_by_what_was_laid_down_and_learned_last(self):
        self.assertEqual(after(begin(2, 3, 14), along(5, 10, 3), learn(1), along(5, 10, 3), lay(6), along(5, 10, 3)),
                         [[3, 2, 2, 1], [1], [3, 1, 0, 0], [0], [3, 1, 0, 0]])

    def test_of_sixteen(self):
        row = [5, 3] * 8
        self.assertEqual(self.all_three(begin(2, 1, 14), row),
                         [[16] + [1] * 16, [16] + [1, 0] * 8, [8, 1, 3, 5, 7, 9, 11, 13, 15]])

    def test_too_long(self):
        for length in (17, 18, 32, 254, 255):
            self.assertEqual(self.all_three(begin(2, 1, 14), [5] * length), [[-22]] * 3, length)

    def test_with_one_that_is_no_proposition(self):
        for m, every in ((1, 3), (2, 15), (3, 255)):
            for wrong in (every + 1, TOP):
                for row in ([wrong], [wrong, 1, 1], [1, wrong, 1], [1, 1, wrong], [1] * 15 + [wrong], [1] * 16 + [wrong]):
                    self.assertEqual(self.all_three(begin(m, 1, 1), row), [[-22]] * 3, (m, row))
            self.assertEqual(self.all_three(begin(m, 1, 1), [1, every]), [[2, 1, 1], [2, 1, 1], [0]])

    def test_refused_all_stays(self):
        wrong = [5, 3, 16]
        self.assertEqual(
            after(begin(2, 1, 14), along(*wrong), alonerow(*wrong), parts(*wrong), along(*[5] * 17), alone(3),
                  along(3, 5), learn(15)),
            [[-22]] * 4 + [[1, 0], [2, 1, 0], [1]])


class AsTheWordsSay(unittest.TestCase):
    def check(self, m, k, p, props, rows):
        calls = begin(m, k, p)
        asked = []
        for q in props:
            calls = calls + alone(q)
            asked.append(byword.alone(q, p, k))
        for row in rows:
            calls = calls + alonerow(*row) + along(*row) + parts(*row)
            asked += [byword.alonerow(row, p, k), byword.along(row, p, k), byword.parts(row, p, k)]
        self.assertEqual(cut(answers(calls))[1:], asked, (m, k, p))

    def test_one_letter_whatever_is_known_and_laid_down(self):
        rows = [list(row) for row in product(range(4), repeat=3)]
        for k, p in product(range(1, 4), repeat=2):
            for start in range(0, len(rows), 13):
                self.check(1, k, p, range(4), rows[start:start + 13])

    def test_two_letters_whatever_is_known_and_laid_down(self):
        for k, p in product(range(1, 16), repeat=2):
            rows = [[(k * a + p + b) % 16 for b in range(a + 1)] for a in range(9)]
            self.check(2, k, p, range(16), rows)

    def test_three_letters(self):
        for k, p in product((1, 6, 41, 128, 200, 255), (1, 9, 126, 129, 214, 254, 255)):
            rows = [[(a * 37 + k * b + b * b + p) % 256 for b in range(16)] for a in range(8)]
            for start in range(0, 256, 20):
                self.check(3, k, p, range(start, min(start + 20, 256)), rows)


if __name__ == "__main__":
    unittest.main()
