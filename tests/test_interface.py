"""The list of calls and the list of answers: their form, their kinds, and that nothing is kept."""

import contextlib
import io
import unittest

from asking import (
    TOP, after, alone, alonerow, along, ask, begin, bound, caught, clash, clashes, counts, cut, lay, learn, matters,
    may, nth, order, partner, parts, state, way, ways,
)
from laiddown.granted import answers

ONE_OF_EACH = [
    0, 2, 1, 14,
    1, 6,
    2, 3,
    3, 5,
    4, 3, 5, 3, 12,
    5, 3, 5, 3, 12,
    6, 3, 5, 3, 12,
    7, 5, 3,
    8,
    9, 0,
    10, 5,
    11, 2, 5, 3,
    12, 3, 5, 3, 12,
    13, 1, 3, 5, 3, 12,
    14, 0, 3, 5, 3, 12,
    15, 0, 0, 3, 5, 3, 12,
    16, 3, 5, 3, 12,
    17,
    18, 5,
    19,
]


class TheLists(unittest.TestCase):
    def test_the_empty_list(self):
        self.assertEqual(answers([]), [])

    def test_one_of_each_call_number_by_number(self):
        self.assertEqual(answers(ONE_OF_EACH), [
            1, 0,
            1, 0,
            1, 1,
            2, 1, 0,
            4, 3, 1, 1, 0,
            4, 3, 1, 0, 1,
            3, 2, 1, 2,
            1, 1,
            1, 12,
            2, 3, 5,
            1, 3,
            2, 0, 0,
            1, 2,
            4, 3, 0, 1, 0,
            1, 3,
            4, 3, 1, 0, 2,
            1, 1,
            3, 8, 8, 0,
            1, 0,
            3, 2, 1, 6,
        ])

    def test_a_refusal_is_its_number_alone(self):
        self.assertEqual(answers([3, 1]), [1, -11])
        self.assertEqual(answers([0, 4, 1, 1]), [1, -22])
        self.assertEqual(answers([0, 1, 1, 0]), [1, -33])
        self.assertEqual(answers([0, 1, 1, 1, 9, 0, 6, 1, 4]), [1, 1, 1, -33, 1, -22])
        self.assertEqual(answers([13, 0, 1, 1]), [1, -11])
        self.assertEqual(answers([0, 1, 1, 1, 10, 1, 13, 1, 0, 14, 0, 0, 15, 0, 3, 1, 1, 15, 0, 2, 1, 1]),
                         [1, 1, 1, -33, 1, -33, 1, -22, 1, -22, 1, -33])

    def test_an_empty_row_is_how_many_and_nothing_more(self):
        self.assertEqual(answers([0, 1, 1, 1, 4, 0, 5, 0, 6, 0]), [1, 1, 1, 0, 1, 0, 1, 0])
        self.assertEqual(answers([0, 1, 1, 1, 11, 0, 12, 0, 13, 0, 0, 16, 0]), [1, 1, 2, 1, 1, 1, 1, 1, 0, 1, 0])

    def test_whole_numbers_only(self):
        told = answers(ONE_OF_EACH + [7, 3, 3, 0, 4, 0, 0, 1, 0])
        self.assertIs(type(told), list)
        self.assertEqual({type(number) for number in told}, {int})

    def test_forty_five_calls(self):
        calls = [begin(3, 1, 254)] + [alone(p) for p in range(44)]
        told = ask(*calls)
        self.assertEqual(len(told), 45)
        self.assertEqual(told[-1], [1, 0])

    def test_forty_five_searches_for_pairs(self):
        told = ask(begin(3, 1, 14), *[clashes()] * 22, *[nth(TOP)] * 22)
        self.assertEqual(len({tuple(piece) for piece in told[1:23]}), 1)
        self.assertEqual(told[23:], [[-33]] * 22)

    def test_forty_five_of_the_calls_that_take_longest(self):
        row = (173, 114, 100, 232, 135)
        for call, asked in ((ways(*row), [16]), (way(TOP, *row), [-33]), (may(4, *row), [3]),
                            (order(4, 2, *row), [-33]), (matters(*row), [1]), (counts(), [38, 38, 180]),
                            (partner(255), [-33])):
            self.assertEqual(ask(begin(3, 7, 248), *[call] * 44), [[0]] + [asked] * 44, call)

    def test_forty_five_of_different_calls_with_rows(self):
        row = (173, 114, 100, 232, 135)
        told = ask(begin(3, 7, 248), *[ways(*row), matters(*row), caught(*row), order(0, 0, *row)] * 11)
        self.assertEqual(told[1:5] * 11, told[1:])

    def test_rows_of_255_read_whole(self):
        # A row's numbers are like calls here: whoever stops in the middle of it answers more of them.
        row = [8] * 255
        calls = [begin(3, 255, 255)] + [alonerow(*row), along(*row), parts(*row)] * 14 + [learn(7), clashes()]
        self.assertLessEqual(sum(len(call) for call in calls), 12000)
        self.assertEqual(ask(*calls), [[1]] + [[-22]] * 42 + [[3], [0]])
        calls = [begin(3, 255, 255)] + [caught(*row), ways(*row), way(8, *row), may(8, *row), order(8, 8, *row),
                                        matters(*row)] * 7 + [learn(7), state()]
        self.assertLessEqual(sum(len(call) for call in calls), 12000)
        self.assertEqual(ask(*calls), [[1]] + [[-22]] * 42 + [[3], [3, 7, 255]])

    def test_rows_with_numbers_ahead_of_them_read_whole(self):
        # Here too the numbers are like calls: 19 by itself would be answered, 0 and 13 would draw in what comes behind.
        self.assertEqual(ask(begin(1, 1, 3), way(19, 19), may(13, 0, 0), order(19, 0, 13, 13), way(0, 3), state()),
                         [[1], [-22], [-22], [-22], [1, 1], [1, 1, 3]])


LONG_WAYS = begin(3, 7, 248) + (order(4, 1, 173, 114, 100, 232, 135) + way(15, 173, 114, 100, 232, 135)) * 22


class NothingIsChangedOrKept(unittest.TestCase):
    def test_what_is_handed_in_stays_the_same(self):
        for calls in ([], ONE_OF_EACH, [4, 2, 1, 1], [0, 1, 1, 1, 5, 17] + [1] * 17, LONG_WAYS):
            handed = list(calls)
            answers(handed)
            self.assertEqual(handed, calls)

    def test_what_is_handed_in_is_only_read(self):
        class OnlyRead(list):
            def refuse(self, *given):
                raise AssertionError("a list that was handed in was changed")
            append = extend = insert = pop = remove = clear = sort = reverse = refuse
            __setitem__ = __delitem__ = __iadd__ = __imul__ = refuse

        self.assertEqual(answers(OnlyRead(ONE_OF_EACH)), answers(ONE_OF_EACH))
        self.assertEqual(answers(OnlyRead(LONG_WAYS)), answers(LONG_WAYS))

    def test_twice_the_same(self):
        for calls in ([], ONE_OF_EACH, [3, 1], [0, 1, 1, 1, 1, 3, 2, 1], LONG_WAYS):
            self.assertEqual(answers(calls), answers(calls))

    def test_what_comes_back_is_a_list_of_its_own(self):
        first = answers(ONE_OF_EACH)
        kept = list(first)
        first.clear()
        self.assertEqual(answers(ONE_OF_EACH), kept)

    def test_no_object_is_left_from_the_time_before(self):
        answers([0, 3, 255, 255])
        self.assertEqual(answers([3, 1]), [1, -11])
        answers([0, 3, 255, 255, 0, 0, 0, 0])
        self.assertEqual(answers([8]), [1, -11])

    def test_nothing_is_printed(self):
        out, err = io.StringIO(), io.StringIO()
        with contextlib.redirect_stdout(out), contextlib.redirect_stderr(err):
            answers(ONE_OF_EACH)
        self.assertEqual(out.getvalue() + err.getvalue(), "")


EVERY_OTHER_CALL = [
    lay(1), learn(1), alone(1), alonerow(1, 2), along(1, 2), parts(1, 2), clash(1, 2), clashes(), nth(0),
    partner(1), caught(1, 2), ways(1, 2), way(0, 1, 2), may(0, 1, 2), order(0, 0, 1, 2), matters(1, 2), counts(),
    bound(1), state(),
]
EVERY_OTHER_CALL_WRONG = [
    lay(0), lay(TOP), learn(0), learn(TOP), alone(TOP), alonerow(), along(), parts(), alonerow(TOP), along(TOP),
    parts(TOP), alonerow(*[1] * 17), along(*[1] * 255), parts(*[1] * 17), clash(TOP, 1), clash(1, TOP), nth(TOP),
    partner(TOP), caught(), caught(TOP), caught(*[1] * 17), ways(), ways(TOP), ways(*[1] * 6), way(TOP), way(0, TOP),
    way(0, *[1] * 255), may(0), may(TOP, 1), may(0, TOP), may(0, *[1] * 6), order(0, 0), order(TOP, 0, 1),
    order(0, TOP, 1), order(0, 0, TOP), order(0, 0, *[1] * 255), matters(), matters(TOP), matters(*[1] * 6), bound(TOP),
]


class BeforeABegin(unittest.TestCase):
    def test_every_call_on_a_new_object(self):
        for call in EVERY_OTHER_CALL + EVERY_OTHER_CALL_WRONG:
            self.assertEqual(ask(call), [[-11]], call)

    def test_all_in_one_list(self):
        self.assertEqual(ask(*EVERY_OTHER_CALL), [[-11]] * len(EVERY_OTHER_CALL))

    def test_every_call_behind_a_begin_that_was_refused(self):
        for refused, number in ((begin(0, 1, 1), -22), (begin(2, 0, 1), -22), (begin(2, 1, 16), -22),
                                (begin(2, 1, 0), -33)):
            for call in EVERY_OTHER_CALL + EVERY_OTHER_CALL_WRONG:
                self.assertEqual(ask(refused, call), [[number], [-11]], (refused, call))

    def test_a_begin_behind_refusals(self):
        self.assertEqual(ask(lay(1), begin(4, 1, 1), alone(1), begin(1, 1, 2), alone(1)),
                         [[-11], [-22], [-11], [0], [0, 2]])

    def test_none_of_them_is_refused_so_behind_a_begin(self):
        for call in EVERY_OTHER_CALL + EVERY_OTHER_CALL_WRONG:
            self.assertNotEqual(after(begin(1, 3, 3), call), [[-11]], call)


class TheCuttingItself(unittest.TestCase):
    def test_counts_that_do_not_fit(self):
        self.assertEqual(cut([1, 0, 2, 1, 0]), [[0], [1, 0]])
        for told in ([0], [2, 1], [1, 0, 3, 1]):
            self.assertRaises(AssertionError, cut, told)


if __name__ == "__main__":
    unittest.main()
