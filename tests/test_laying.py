"""Point 1: begin, lay, learn."""

import unittest

from asking import TOP, after, alone, alonerow, along, ask, begin, clashes, lay, learn, parts


class Begin(unittest.TestCase):
    def test_known_to_be_so(self):
        self.assertEqual(ask(begin(1, 2, 2)), [[1]])
        self.assertEqual(ask(begin(2, 3, 7)), [[1]])
        self.assertEqual(ask(begin(3, 129, 129)), [[1]])

    def test_known_not_to_be_so(self):
        self.assertEqual(ask(begin(1, 1, 2)), [[0]])
        self.assertEqual(ask(begin(2, 1, 14)), [[0]])
        self.assertEqual(ask(begin(3, 15, 240)), [[0]])

    def test_neither(self):
        self.assertEqual(ask(begin(1, 3, 1)), [[2]])
        self.assertEqual(ask(begin(2, 3, 6)), [[2]])
        self.assertEqual(ask(begin(3, 255, 254)), [[2]])

    def test_laid_down_what_is_so_always(self):
        for m, every in ((1, 3), (2, 15), (3, 255)):
            for k in range(1, every + 1):
                self.assertEqual(ask(begin(m, k, every)), [[1]])

    def test_letters(self):
        for m in (0, 4, 5, 255, TOP):
            self.assertEqual(ask(begin(m, 1, 1)), [[-22]], m)
        for m in (1, 2, 3):
            self.assertEqual(ask(begin(m, 1, 1)), [[1]], m)

    def test_the_greatest_proposition_and_one_above(self):
        for m, every in ((1, 3), (2, 15), (3, 255)):
            self.assertEqual(ask(begin(m, every, every)), [[1]])
            for wrong in (every + 1, TOP):
                self.assertEqual(ask(begin(m, wrong, 1)), [[-22]])
                self.assertEqual(ask(begin(m, 1, wrong)), [[-22]])

    def test_no_known_world(self):
        for m in (1, 2, 3):
            self.assertEqual(ask(begin(m, 0, 1)), [[-22]])

    def test_laid_down_what_is_so_in_no_world(self):
        for m in (1, 2, 3):
            self.assertEqual(ask(begin(m, 1, 0)), [[-33]])

    def test_of_several_refusals_the_first(self):
        for wrong in (begin(0, 1, 0), begin(4, 0, 0), begin(TOP, 1, 0), begin(2, 0, 0), begin(2, 16, 0),
                      begin(3, 256, 0)):
            self.assertEqual(ask(wrong), [[-22]], wrong)


class SecondBegin(unittest.TestCase):
    def test_with_fewer_letters(self):
        self.assertEqual(ask(begin(2, 1, 14), alone(12), begin(1, 1, 2), alone(12), alone(2), learn(3)),
                         [[0], [0, 0], [0], [-22], [1, 1], [1]])

    def test_with_more_letters(self):
        self.assertEqual(ask(begin(1, 1, 2), alone(128), begin(3, 255, 128), alone(128), learn(255)),
                         [[0], [-22], [2], [1, 1], [8]])

    def test_what_was_learned_is_forgotten(self):
        self.assertEqual(ask(begin(2, 15, 15), learn(1), begin(2, 15, 15), learn(15)), [[1], [1], [1], [4]])

    def test_refused_all_stays(self):
        shown = (alone(5), alone(12), alonerow(5, 3, 12), along(5, 3, 12), parts(5, 3, 12), clashes(), learn(15),
                 alone(16))
        for refused, number in ((begin(0, 2, 2), -22), (begin(4, 2, 2), -22), (begin(TOP, 2, 2), -22),
                                (begin(1, 0, 2), -22), (begin(1, 4, 2), -22), (begin(3, 2, 256), -22),
                                (begin(1, 2, 0), -33), (begin(3, 2, 0), -33)):
            self.assertEqual(ask(begin(2, 1, 14), refused, *shown),
                             [[0], [number], [1, 0], [0, 0], [3, 1, 1, 0], [3, 1, 0, 1], [2, 1, 2], [12], [1], [-22]],
                             refused)


class Lay(unittest.TestCase):
    def test_what_is_known_of_it(self):
        self.assertEqual(after(begin(1, 1, 1), lay(1), lay(2), lay(3)), [[1], [0], [1]])
        self.assertEqual(after(begin(2, 3, 1), lay(3), lay(12), lay(6), lay(15)), [[1], [0], [2], [1]])
        self.assertEqual(after(begin(3, 192, 1), lay(192), lay(63), lay(128), lay(255)), [[1], [0], [2], [1]])

    def test_it_stands_instead_of_the_one_before(self):
        self.assertEqual(after(begin(2, 1, 14), alone(6), lay(6), alone(6), alone(8)),
                         [[0, 0], [0], [1, 1], [0, 2]])

    def test_not_together_with_the_one_before(self):
        self.assertEqual(after(begin(2, 15, 3), lay(12), alone(12), alone(4), alone(3)),
                         [[2], [1, 1], [2, 0], [0, 2]])

    def test_what_is_known_stays(self):
        self.assertEqual(after(begin(2, 3, 1), lay(12), learn(15)), [[0], [2]])

    def test_not_a_proposition(self):
        for m, every in ((1, 3), (2, 15), (3, 255)):
            self.assertEqual(after(begin(m, 1, 1), lay(every), lay(every + 1), lay(TOP)), [[1], [-22], [-22]])

    def test_so_in_no_world(self):
        for m in (1, 2, 3):
            self.assertEqual(after(begin(m, 1, 1), lay(0)), [[-33]])

    def test_refused_all_stays(self):
        for refused, number in ((lay(0), -33), (lay(16), -22), (lay(TOP), -22)):
            self.assertEqual(after(begin(2, 1, 14), refused, alonerow(5, 3, 12, 14), clashes(), learn(15)),
                             [[number], [4, 1, 1, 0, 1], [12], [1]])


class Learn(unittest.TestCase):
    def test_how_many_are_left(self):
        self.assertEqual(after(begin(1, 3, 3), learn(3), learn(2)), [[2], [1]])
        self.assertEqual(after(begin(2, 15, 15), learn(15), learn(7), learn(14), learn(4)), [[4], [3], [2], [1]])
        self.assertEqual(after(begin(3, 255, 1), learn(127), learn(240), learn(159), learn(255)),
                         [[7], [3], [1], [1]])

    def test_only_those_known_already(self):
        self.assertEqual(after(begin(2, 3, 15), learn(14), learn(15)), [[1], [1]])

    def test_answers_change_with_it(self):
        self.assertEqual(after(begin(3, 3, 252), alone(170), learn(2), alone(170), lay(2)),
                         [[2, 0], [1], [1, 0], [1]])

    def test_what_was_laid_down_stays(self):
        self.assertEqual(after(begin(2, 15, 14), learn(1), alone(14), alone(1)), [[1], [1, 1], [0, 2]])

    def test_not_a_proposition(self):
        for m, every in ((1, 3), (2, 15), (3, 255)):
            self.assertEqual(after(begin(m, 1, 1), learn(every), learn(every + 1), learn(TOP)), [[1], [-22], [-22]])

    def test_no_world_would_be_known(self):
        self.assertEqual(after(begin(1, 1, 1), learn(2)), [[-33]])
        self.assertEqual(after(begin(2, 3, 1), learn(12), learn(0)), [[-33], [-33]])
        self.assertEqual(after(begin(3, 240, 1), learn(15)), [[-33]])

    def test_of_several_refusals_the_first(self):
        self.assertEqual(after(begin(2, 1, 1), learn(16), learn(18), learn(4294967294)), [[-22], [-22], [-22]])

    def test_refused_all_stays(self):
        for refused, number in ((learn(0), -33), (learn(12), -33), (learn(16), -22), (learn(17), -22)):
            self.assertEqual(after(begin(2, 3, 6), refused, alonerow(10, 3, 6), lay(3), learn(15)),
                             [[number], [3, 2, 1, 1], [1], [2]])


if __name__ == "__main__":
    unittest.main()
