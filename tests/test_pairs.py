"""Promise 3: wish and bar."""

import unittest

from roomsharedesk.journey import Journey
from tests.asking import GREATEST, all_pairs, ask, bar, begin, each_one, wish


class Both(unittest.TestCase):
    """What holds of a wish and of a bar alike."""

    def check(self, due, make_calls):
        for tell in (wish, bar):
            with self.subTest(tell=tell.__name__):
                self.assertEqual(ask(*make_calls(tell)), each_one(*due))

    def test_told_and_taken_back(self):
        self.check((0, 0, 0, 0), lambda tell: [begin(3), tell(0, 1), tell(1, 2), tell(0, 1, 0)])

    def test_told_twice(self):
        self.check((0, 0, -17, -17), lambda tell: [begin(2), tell(0, 1), tell(0, 1), tell(0, 1)])

    def test_taken_back_though_not_told(self):
        self.check((0, -17, 0, -17), lambda tell: [begin(3), tell(0, 1, 0), tell(0, 2), tell(0, 1, 0)])

    def test_taken_back_twice(self):
        self.check((0, 0, 0, -17), lambda tell: [begin(2), tell(0, 1), tell(0, 1, 0), tell(0, 1, 0)])

    def test_told_anew_behind_taking_back(self):
        self.check((0, 0, 0, 0, -17), lambda tell: [begin(2), tell(0, 1), tell(0, 1, 0), tell(0, 1), tell(0, 1)])

    def test_no_pupil(self):
        self.check(
            (0, -22, -22, -22, -22, -22, -22, 0),
            lambda tell: [
                begin(3), tell(3, 0), tell(0, 3), tell(3, 0, 0), tell(0, 3, 0),
                tell(GREATEST, 0), tell(0, GREATEST), tell(2, 0),
            ],
        )

    def test_paired_with_themselves(self):
        self.check(
            (0, -22, -22, -22, -22),
            lambda tell: [begin(8), tell(0, 0), tell(7, 7), tell(7, 7, 0), tell(GREATEST, GREATEST)],
        )

    def test_only_pupil_has_nobody_to_be_paired_with(self):
        self.check((0, -22, -22, -22), lambda tell: [begin(1), tell(0, 0), tell(0, 1), tell(1, 0)])

    def test_on_above_1(self):
        self.check(
            (0, -22, -22, -17, 0, -22, -22, -17),
            lambda tell: [
                begin(2), tell(0, 1, 2), tell(0, 1, GREATEST), tell(0, 1, 0),
                tell(0, 1), tell(0, 1, 2), tell(0, 1, GREATEST), tell(0, 1),
            ],
        )

    def test_refused_pairs_are_not_told(self):
        for tell in (Journey.wish, Journey.bar):
            journey = Journey()
            journey.begin(2)
            for a, b, on in ((0, 0, 1), (0, 2, 1), (2, 0, 1), (0, 1, 2), (0, 1, 0)):
                with self.subTest(tell=tell.__name__, a=a, b=b, on=on):
                    self.assertLess(tell(journey, a, b, on), 0)
                    self.assertEqual((journey.wishes, journey.bars), ({}, {}))

    def test_wishes_and_bars_are_told_apart(self):
        given = ask(
            begin(2), wish(0, 1), bar(0, 1, 0), bar(0, 1), wish(0, 1),
            wish(0, 1, 0), bar(0, 1), bar(0, 1, 0), wish(0, 1, 0),
        )
        self.assertEqual(given, each_one(0, 0, -17, 0, -17, 0, -17, 0, -17))


class Wish(unittest.TestCase):
    def test_the_other_way_round_is_another_wish(self):
        given = ask(begin(2), wish(0, 1), wish(1, 0, 0), wish(1, 0), wish(0, 1, 0), wish(1, 0), wish(1, 0, 0))
        self.assertEqual(given, each_one(0, 0, -17, 0, 0, -17, 0))

    def test_no_33rd_wish(self):
        pairs = all_pairs(8)
        calls = [begin(8)] + [wish(a, b) for a, b in pairs[:34]]
        self.assertEqual(ask(*calls), each_one(0, *[0] * 32, -12, -12))

    def test_refusals_where_there_are_32(self):
        pairs = all_pairs(8)
        calls = [begin(8)] + [wish(a, b) for a, b in pairs[:32]]
        told, other = pairs[0], pairs[32]
        calls += [wish(*told), wish(*other, 0), wish(*other, 2), wish(8, 0), wish(5, 5), wish(*other)]
        self.assertEqual(ask(*calls), each_one(0, *[0] * 32, -17, -17, -22, -22, -22, -12))

    def test_one_taken_back_leaves_place_for_one(self):
        pairs = all_pairs(8)
        calls = [begin(8)] + [wish(a, b) for a, b in pairs[:32]]
        calls += [wish(*pairs[32]), wish(*pairs[9], 0), wish(*pairs[32]), wish(*pairs[9]), wish(*pairs[32])]
        self.assertEqual(ask(*calls), each_one(0, *[0] * 32, -12, 0, 0, -12, -17))

    def test_32_wishes_leave_place_for_bars(self):
        calls = [begin(8)] + [wish(a, b) for a, b in all_pairs(8)[:32]] + [bar(0, 1), bar(7, 6)]
        self.assertEqual(ask(*calls), each_one(0, *[0] * 34))

    def test_0_with_a_filling_too(self):
        journey = Journey()
        journey.begin(2)
        journey.room(2)
        journey.filling = [0, 0]
        self.assertEqual([journey.wish(0, 1, 1), journey.wish(0, 1, 0)], [0, 0])
        self.assertEqual(journey.filling, [0, 0])


class Bar(unittest.TestCase):
    def test_the_other_way_round_is_the_same_bar(self):
        given = ask(
            begin(5), bar(4, 1), bar(1, 4), bar(4, 1), bar(1, 4, 0), bar(4, 1, 0),
            bar(1, 4), bar(4, 1), bar(4, 1, 0), bar(1, 4, 0),
        )
        self.assertEqual(given, each_one(0, 0, -17, -17, 0, -17, 0, -17, 0, -17))

    def test_bars_are_kept_with_the_lesser_number_first(self):
        journey = Journey()
        journey.begin(4)
        journey.bar(3, 1, 1)
        journey.bar(0, 2, 1)
        self.assertEqual(list(journey.bars), [(1, 3), (0, 2)])

    def test_all_that_eight_pupils_can_have(self):
        calls = [begin(8)]
        due = [0]
        for a, b in all_pairs(8):
            calls.append(bar(a, b))
            due.append(0 if a < b else -17)
        self.assertEqual(ask(*calls), each_one(*due))

    def test_1_where_there_is_a_filling_still(self):
        journey = Journey()
        journey.begin(3)
        journey.room(2)
        journey.room(1)
        journey.filling = [0, 0, 1]
        self.assertEqual([journey.bar(2, 0, 1), journey.bar(0, 2, 0)], [1, 1])
