"""Point 4: counts, bound, state."""

import unittest
from itertools import product

import byword
from asking import TOP, after, after_many, alone, along, ask, begin, bound, counts, lay, learn, state


class Counts(unittest.TestCase):
    def test_one_letter(self):
        for k, p, asked in ((1, 2, [2, 2, 0]), (3, 3, [1, 1, 2]), (1, 3, [2, 2, 0]), (3, 1, [2, 2, 0])):
            self.assertEqual(after(begin(1, k, p), counts()), [asked], (k, p))

    def test_two_letters(self):
        # Conceded are 14 and 15, which follow, and those six with world 0 that don't matter.
        self.assertEqual(after(begin(2, 1, 14), counts()), [[8, 8, 0]])
        self.assertEqual(after(begin(2, 3, 6), counts()), [[6, 6, 4]])
        self.assertEqual(after(begin(2, 15, 15), counts()), [[1, 1, 14]])

    def test_three_letters(self):
        for k, p, asked in ((255, 255, [1, 1, 254]), (255, 1, [128, 128, 0]), (1, 254, [128, 128, 0]),
                            (3, 252, [66, 66, 124])):
            self.assertEqual(after(begin(3, k, p), counts()), [asked], (k, p))

    def test_behind_begin_lay_and_learn(self):
        self.assertEqual(
            after(begin(2, 15, 15), counts(), learn(3), counts(), lay(6), counts(), learn(1), counts(), lay(14),
                  counts(), begin(1, 3, 3), counts()),
            [[1, 1, 14], [2], [4, 4, 8], [2], [6, 6, 4], [1], [8, 8, 0], [0], [8, 8, 0], [1], [1, 1, 2]])

    def test_laid_down_what_is_so_in_one_world(self):
        # Each that has that world follows, each other one is against it.
        for k in range(1, 16):
            self.assertEqual(after(begin(2, k, 4), counts()), [[8, 8, 0]])

    def test_they_add_up_to_all(self):
        for m, every in ((1, 3), (2, 15)):
            for k, p in product(range(1, every + 1), repeat=2):
                self.assertEqual(sum(after(begin(m, k, p), counts())[0]), every + 1)
        for k, p in product((1, 6, 41, 128, 200, 255), (1, 9, 126, 129, 214, 254, 255)):
            self.assertEqual(sum(after(begin(3, k, p), counts())[0]), 256)

    def test_as_the_words_say(self):
        for m, every in ((1, 3), (2, 15)):
            for k, p in product(range(1, every + 1), repeat=2):
                self.assertEqual(after(begin(m, k, p), counts()), [byword.counts(every, p, k)], (m, k, p))
        for k, p in product((1, 41, 200, 255), (1, 9, 214, 255)):
            self.assertEqual(after(begin(3, k, p), counts()), [byword.counts(255, p, k)], (k, p))

    def test_each_answered_so_alone(self):
        for k, p in ((1, 14), (3, 6), (9, 6), (15, 15)):
            told = [piece[0] for piece in after(begin(2, k, p), *[alone(q) for q in range(16)])]
            self.assertEqual(after(begin(2, k, p), counts()), [[told.count(1), told.count(0), told.count(2)]])


class Bound(unittest.TestCase):
    def test_one_letter(self):
        self.assertEqual(after(begin(1, 1, 3), *[bound(p) for p in range(4)]), [[1], [0], [0], [1]])
        self.assertEqual(after(begin(1, 1, 2), *[bound(p) for p in range(4)]), [[1], [1], [1], [1]])

    def test_two_letters(self):
        for k in (1, 3, 15):
            self.assertEqual(after(begin(2, k, 14), *[bound(p) for p in range(16)]),
                             [[1] if p in (0, 1, 14, 15) else [0] for p in range(16)])

    def test_three_letters(self):
        self.assertEqual(after(begin(3, 1, 240), bound(240), bound(255), bound(15), bound(0), bound(128), bound(85)),
                         [[1], [1], [1], [1], [0], [0]])

    def test_so_always_and_never(self):
        for m, every in ((1, 3), (2, 15), (3, 255)):
            for p in (1, 2, every):
                self.assertEqual(after(begin(m, 1, p), bound(every), bound(0)), [[1], [1]])

    def test_laid_down_what_is_so_in_one_world(self):
        self.assertEqual(after(begin(2, 1, 4), *[bound(p) for p in range(16)]), [[1]] * 16)

    def test_by_what_was_laid_down_last_and_not_by_what_is_known(self):
        self.assertEqual(after(begin(2, 15, 14), bound(6), learn(6), bound(6), lay(6), bound(6), bound(2)),
                         [[0], [2], [0], [1], [1], [0]])

    def test_not_a_proposition(self):
        for m, every in ((1, 3), (2, 15), (3, 255)):
            self.assertEqual(after(begin(m, 1, 1), bound(every + 1), bound(TOP), bound(every), state()),
                             [[-22], [-22], [1], [m, 1, 1]])

    def test_like_alone(self):
        for m, every in ((1, 3), (2, 15)):
            for p in range(1, every + 1):
                props = list(range(every + 1))
                told = after_many(begin(m, 1, p), [alone(q) for q in props])
                self.assertEqual(after_many(begin(m, 1, p), [bound(q) for q in props]),
                                 [[0] if piece[1] == 0 else [1] for piece in told])
                self.assertEqual(told, [byword.alone(q, p, 1) for q in props])


class State(unittest.TestCase):
    def test_behind_a_begin(self):
        for m, every in ((1, 3), (2, 15), (3, 255)):
            for k, p in product((1, 2, every), (1, 2, every - 1, every)):
                self.assertEqual(after(begin(m, k, p), state()), [[m, k, p]])

    def test_behind_lay_and_learn(self):
        self.assertEqual(
            after(begin(3, 255, 254), state(), lay(17), state(), learn(126), state(), lay(255), state(), learn(129 + 6),
                  state()),
            [[3, 255, 254], [2], [3, 255, 17], [6], [3, 126, 17], [1], [3, 126, 255], [2], [3, 6, 255]])

    def test_behind_another_begin(self):
        self.assertEqual(ask(begin(3, 255, 254), begin(1, 3, 2), state(), begin(2, 9, 6), state()),
                         [[2], [2], [1, 3, 2], [0], [2, 9, 6]])

    def test_behind_a_begin_that_was_refused(self):
        for refused, number in ((begin(0, 1, 1), -22), (begin(4, 1, 1), -22), (begin(1, 4, 1), -22),
                                (begin(1, 1, 4), -22), (begin(1, 0, 1), -22), (begin(1, 1, 0), -33)):
            self.assertEqual(after(begin(2, 9, 6), refused, state(), counts()),
                             [[number], [2, 9, 6], after(begin(2, 9, 6), counts())[0]], refused)

    def test_what_was_proposed_leaves_it(self):
        self.assertEqual(after(begin(2, 1, 14), along(5, 3, 12), alone(5), bound(5), counts(), state())[-1], [2, 1, 14])


if __name__ == "__main__":
    unittest.main()
