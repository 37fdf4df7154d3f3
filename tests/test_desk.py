"""The interface: how calls stand in the list, and what is given back."""

import unittest

from roomsharedesk.desk import answers
from tests.asking import (
    GREATEST, all_pairs, as_one_list, ask, bar, beds, begin, each_one, fill, move, pin, room, state, swap, weigh, who,
    wish,
)

JOURNEY = [
    0, 4,
    1, 2,
    1, 3,
    3, 0, 1, 1,
    3, 1, 0, 1,
    3, 0, 1, 1,
    4, 3, 2, 1,
    4, 2, 3, 1,
    2, 1, 2,
    2, 2, 2,
    5, 3, 2,
    5, 3, 3,
    4, 2, 3, 0,
    3, 1, 0, 0,
    3, 1, 0, 0,
    0, 9,
    1, 9,
    1, 0,
    6,
    11,
    9, 1,
    9, 2,
    10,
    7, 0, 1,
    7, 2, 1,
    8, 0, 3,
    8, 0, 2,
    9, 0,
    2, 1, 1,
    5, 0, 1,
    10,
]
JOURNEY_ANSWERS = [
    1, 0,
    1, 0,
    1, 1,
    1, 0,
    1, 0,
    1, -17,
    1, 0,
    1, -17,
    1, 0,
    1, -2,
    1, 0,
    1, -2,
    1, 0,
    1, 0,
    1, -17,
    1, -22,
    1, -22,
    1, 2,
    2, 4, 1,
    4, 1, 3, 1, 0,
    3, 2, 2, 3,
    1, 0,
    2, 4, 1,
    1, -28,
    1, 4,
    1, -13,
    1, 3,
    3, 2, 1, 2,
    1, 0,
    1, 0,
    1, -61,
]


class OnlyRead(list):
    """A list that takes no change, not for a while either."""

    def refuse(self, *told, **named):
        raise AssertionError("what is handed in was changed")

    append = extend = insert = pop = remove = clear = sort = reverse = refuse
    __setitem__ = __delitem__ = __iadd__ = __imul__ = refuse


class Answers(unittest.TestCase):
    def test_a_whole_list(self):
        self.assertEqual(answers(list(JOURNEY)), JOURNEY_ANSWERS)

    def test_whole_numbers_in_a_list(self):
        given = answers(list(JOURNEY))
        self.assertIs(type(given), list)
        self.assertEqual({type(number) for number in given}, {int})

    def test_what_is_handed_in_is_not_changed(self):
        calls = list(JOURNEY)
        given = answers(calls)
        self.assertEqual(calls, JOURNEY)
        self.assertIsNot(given, calls)
        self.assertEqual(answers(OnlyRead(JOURNEY)), JOURNEY_ANSWERS)

    def test_twice_it_is_the_same(self):
        calls = list(JOURNEY)
        first = answers(calls)
        self.assertEqual(answers(calls), first)
        self.assertEqual(first, JOURNEY_ANSWERS)

    def test_what_is_given_back_is_nobody_elses(self):
        answers(list(JOURNEY)).clear()
        self.assertEqual(answers(list(JOURNEY)), JOURNEY_ANSWERS)

    def test_nothing_is_kept_from_one_time_to_the_next(self):
        self.assertEqual(ask(begin(2), room(1), wish(0, 1), bar(0, 1)), each_one(0, 0, 0, 0))
        self.assertEqual(ask(room(1), wish(0, 1), bar(0, 1), pin(0, 0)), each_one(-61, -61, -61, -2))
        self.assertEqual(ask(begin(2), room(1), wish(0, 1), bar(0, 1)), each_one(0, 0, 0, 0))

    def test_greatest_numbers_in_each_place(self):
        given = ask(
            begin(2), room(2), begin(GREATEST), room(GREATEST), beds(GREATEST, 1), beds(0, GREATEST),
            beds(GREATEST, GREATEST), wish(GREATEST, 0), wish(0, GREATEST), wish(0, 1, GREATEST),
            wish(GREATEST, GREATEST, GREATEST), bar(GREATEST, 0), bar(0, GREATEST), bar(0, 1, GREATEST),
            bar(GREATEST, GREATEST, GREATEST), pin(GREATEST, 0), pin(0, GREATEST), pin(GREATEST, GREATEST),
        )
        due = each_one(0, 0, -22, -22, -2, -22, -2, -22, -22, -22, -22, -22, -22, -22, -22, -2, -2, -2)
        self.assertEqual(given, due)

    def test_greatest_numbers_behind_a_filling(self):
        given = ask(
            begin(2), room(2), fill(), move(GREATEST, 0), move(0, GREATEST), move(GREATEST, GREATEST),
            swap(GREATEST, 0), swap(0, GREATEST), swap(GREATEST, GREATEST), who(GREATEST), weigh(), state(),
        )
        due = each_one(0, 0) + [2, 2, 0] + each_one(*[-2] * 7) + [2, 2, 0] + [4, 1, 1, 0, 0]
        self.assertEqual(given, due)

    def test_no_filling_is_kept_from_one_time_to_the_next(self):
        self.assertEqual(ask(begin(1), room(1), fill(), who(0)), [1, 0, 1, 0, 2, 1, 0, 2, 1, 0])
        self.assertEqual(ask(who(0), weigh(), state(), fill()), each_one(-61, -61, -61, -61))
        self.assertEqual(ask(begin(1), room(1), who(0)), each_one(0, 0, -61))

    def test_refused_it_is_the_number_alone(self):
        self.assertEqual(ask(fill(), state(), who(0), weigh()), each_one(-61, -61, -61, -61))
        self.assertEqual(ask(begin(2), fill(), who(0), weigh()), each_one(0, -33, -61, -61))

    def test_5000_calls_that_fill(self):
        begun = [begin(8)] + [room(2)] * 4 + [wish(a, b) for a, b in all_pairs(8) if b == a + 1]
        turn = [fill(), who(1), swap(1, 2), weigh()]
        calls = begun + turn * 1247
        self.assertEqual(len(calls), 5000)
        due = each_one(0, 0, 1, 2, 3, *[0] * 7) + [2, 5, 4, 3, 2, 2, 3, 1, 3, 2, 3, 2] * 1247
        self.check_long(calls, due)

    def test_5000_calls(self):
        turns = [[wish(a, b), wish(a, b, 0), bar(a, b), bar(a, b, 0)] for a, b in all_pairs(8)]
        calls = [call for turn in turns for call in turn] * 23
        calls = [begin(8)] + calls[:4999]
        self.assertEqual(len(calls), 5000)
        self.check_long(calls, each_one(*[0] * 5000))

    def check_long(self, calls, due):
        given = answers(as_one_list(calls))
        # To show where two lists as long as these differ takes unittest minutes.
        self.assertTrue(given == due, "the answers are not those that are due")
