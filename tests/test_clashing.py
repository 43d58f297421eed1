"""Point 2, of pairs: clash, clashes, nth."""

import unittest
from itertools import combinations, product

import byword
from asking import TOP, after, alone, alonerow, begin, clash, clashes, cut, lay, learn, nth
from laiddown.granted import answers

# Laid down: a or b. Known: neither.
TWELVE = [(3, 5), (3, 9), (3, 13), (3, 14), (5, 9), (5, 11), (5, 14), (7, 9), (7, 14), (9, 14), (11, 14), (13, 14)]
# Laid down: one of a and b, not both. Known: neither.
OTHER_TWELVE = [(3, 5), (3, 6), (3, 13), (3, 14), (5, 6), (5, 11), (5, 14), (6, 11), (6, 13), (11, 13), (11, 14),
                (13, 14)]


class Clash(unittest.TestCase):
    def test_two_letters_every_pair(self):
        for laid, pairs in ((14, TWELVE), (6, OTHER_TWELVE)):
            for p, q in combinations(range(16), 2):
                asked = [1] if (p, q) in pairs else [0]
                self.assertEqual(after(begin(2, 1, laid), clash(p, q), clash(q, p)), [asked, asked], (laid, p, q))

    def test_both_conceded_and_the_whole_denied(self):
        self.assertEqual(after(begin(2, 1, 14), alone(5), alone(3), alone(1), clash(5, 3)),
                         [[1, 0], [1, 0], [0, 2], [1]])

    def test_one_that_follows_and_one_that_is_known(self):
        self.assertEqual(after(begin(2, 1, 14), alone(14), alone(3), alone(2), clash(14, 3)),
                         [[1, 1], [1, 0], [0, 0], [1]])

    def test_the_whole_conceded_or_doubted_is_no_clash(self):
        self.assertEqual(after(begin(2, 1, 14), alone(7), alone(11), alone(3), clash(7, 11)),
                         [[1, 0], [1, 0], [1, 0], [0]])
        # Of the two known worlds 0 and 1 the whole is so in world 1 alone.
        self.assertEqual(after(begin(2, 3, 12), alone(14), alone(7), alone(6), clash(14, 7)),
                         [[1, 1], [1, 0], [2, 0], [0]])

    def test_the_whole_denied_but_not_both_conceded_is_no_clash(self):
        self.assertEqual(after(begin(2, 1, 14), clash(5, 10), clash(0, 15), clash(2, 4), clash(12, 3)),
                         [[0], [0], [0], [0]])

    def test_none_with_itself(self):
        for p in range(16):
            self.assertEqual(after(begin(2, 1, 14), clash(p, p)), [[0]])

    def test_one_letter_never(self):
        for k, p, one, other in product(range(1, 4), range(1, 4), range(4), range(4)):
            self.assertEqual(after(begin(1, k, p), clash(one, other)), [[0]])

    def test_three_letters(self):
        # Not a with not b leaves c; but neither a nor b clashes with not c.
        self.assertEqual(after(begin(3, 1, 254), clash(85, 51), clash(17, 15), clash(15, 17), clash(255, 254)),
                         [[0], [1], [1], [0]])

    def test_not_a_proposition(self):
        for m, every in ((1, 3), (2, 15), (3, 255)):
            for wrong in (every + 1, TOP):
                self.assertEqual(
                    after(begin(m, 1, 1), clash(wrong, 1), clash(1, wrong), clash(wrong, wrong), clash(every, every)),
                    [[-22], [-22], [-22], [0]])

    def test_refused_all_stays(self):
        self.assertEqual(after(begin(2, 1, 14), clash(16, 3), nth(12), alonerow(5, 3, 12), clashes(), learn(15)),
                         [[-22], [-33], [3, 1, 1, 0], [12], [1]])


class ClashesAndNth(unittest.TestCase):
    def test_two_letters_all_of_them(self):
        for laid, pairs in ((14, TWELVE), (6, OTHER_TWELVE)):
            told = after(begin(2, 1, laid), clashes(), *[nth(k) for k in range(12)])
            self.assertEqual(told, [[12]] + [list(pair) for pair in pairs])

    def test_first_and_last_and_one_behind(self):
        self.assertEqual(after(begin(2, 1, 14), nth(0), nth(11), nth(12), nth(13), nth(16), nth(TOP)),
                         [[3, 5], [13, 14], [-33], [-33], [-33], [-33]])

    def test_which_one_is_no_proposition(self):
        # With three letters there are more pairs than propositions, and k may be above all of these.
        pairs = byword.pairs(255, 254, 1)
        self.assertGreater(len(pairs), 257)
        last = len(pairs) - 1
        self.assertEqual(
            after(begin(3, 1, 254), clashes(), nth(0), nth(255), nth(256), nth(last), nth(last + 1), nth(TOP)),
            [[len(pairs)], list(pairs[0]), list(pairs[255]), list(pairs[256]), list(pairs[last]), [-33], [-33]])

    def test_none_there(self):
        for start in (
            begin(1, 1, 2), begin(1, 3, 3),
            begin(2, 1, 4), begin(2, 3, 3), begin(2, 3, 6), begin(2, 15, 15),
            begin(3, 1, 128), begin(3, 1, 255), begin(3, 255, 254),
        ):
            self.assertEqual(after(start, clashes(), nth(0), nth(1), nth(TOP)), [[0], [-33], [-33], [-33]], start)

    def test_by_what_was_laid_down_and_learned_last(self):
        self.assertEqual(
            after(begin(2, 3, 14), clashes(), learn(1), clashes(), nth(1), lay(6), clashes(), nth(1), lay(4), clashes()),
            [[0], [1], [12], [3, 9], [0], [12], [3, 6], [0], [0]])


class AsTheWordsSay(unittest.TestCase):
    def check(self, m, k, p, every):
        pairs = byword.pairs(every, p, k)
        places = sorted({0, 1, len(pairs) // 3, len(pairs) // 2, len(pairs) - 2, len(pairs) - 1, len(pairs)})
        places = [place for place in places if place >= 0]
        asked = [[len(pairs)]] + [list(pairs[place]) if place < len(pairs) else [-33] for place in places]
        calls = begin(m, k, p) + clashes()
        for place in places:
            calls = calls + nth(place)
        self.assertEqual(cut(answers(calls))[1:], asked, (m, k, p))

    def test_one_and_two_letters_whatever_is_known_and_laid_down(self):
        for m, every in ((1, 3), (2, 15)):
            for k, p in product(range(1, every + 1), repeat=2):
                self.check(m, k, p, every)

    def test_three_letters(self):
        for k, p in ((1, 254), (1, 14), (128, 3), (3, 252), (15, 240), (7, 56), (85, 170), (1, 3), (6, 144), (9, 8)):
            self.check(3, k, p, 255)

    def test_every_pair_is_answered_like_the_list(self):
        for k, p in product(range(1, 16), repeat=2):
            pairs = byword.pairs(15, p, k)
            for q in range(16):
                calls = begin(2, k, p)
                for r in range(16):
                    calls = calls + clash(q, r)
                asked = [[1] if (q, r) in pairs or (r, q) in pairs else [0] for r in range(16)]
                self.assertEqual(cut(answers(calls))[1:], asked, (k, p, q))


if __name__ == "__main__":
    unittest.main()
