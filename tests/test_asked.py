"""Promise 7: who, weigh and state."""

import unittest

from tests.asking import (
    GREATEST, all_pairs, answered, ask, bar, beds, begin, fill, last_answered, move, pin, room, state, swap, weigh,
    who, wish,
)


class Who(unittest.TestCase):
    # Behind these: nobody in room 0, 1 and 3 in room 1, 0 and 2 in room 2.
    FILLED = [begin(4), room(0), room(2), room(2), pin(3, 2), pin(0, 3), pin(2, 3), fill()]

    def test_full_and_empty_rooms(self):
        given = answered(*self.FILLED, who(0), who(1), who(2))
        self.assertEqual(given[-3:], [0, [2, 1, 3], [2, 0, 2]])

    def test_how_many_numbers_are_answered(self):
        self.assertEqual(ask(begin(1), room(1), room(1), fill(), who(0), who(1))[-5:], [2, 1, 0, 1, 0])

    def test_one_whom_all_have_left(self):
        given = answered(begin(1), room(1), room(1), fill(), move(0, 1), who(0), who(1))
        self.assertEqual(given[-2:], [0, [1, 0]])

    def test_rising_in_whatever_order_they_came(self):
        calls = [begin(5), room(5), room(5), pin(0, 2), pin(1, 2), pin(2, 2), pin(3, 2), pin(4, 2), fill()]
        calls += [pin(pupil, 0) for pupil in range(5)] + [move(4, 0), move(0, 0), move(2, 0)]
        self.assertEqual(answered(*calls, who(0), who(1))[-2:], [[3, 0, 2, 4], [2, 1, 3]])

    def test_all_in_one_room(self):
        given = answered(begin(8), room(8), fill(), who(0))
        self.assertEqual(given[-1], [8, 0, 1, 2, 3, 4, 5, 6, 7])

    def test_no_such_room(self):
        given = answered(*self.FILLED, who(3), who(4), who(GREATEST), room(1), who(3), who(4))
        self.assertEqual(given[-6:], [-2, -2, -2, 3, 0, -2])

    def test_no_filling(self):
        given = answered(who(0), begin(1), who(0), room(1), who(0), fill(), who(0), begin(1), who(0))
        self.assertEqual(given, [-61, 0, -61, 0, -61, [1, 0], [1, 0], 0, -61])

    def test_no_filling_comes_ahead_of_no_such_room(self):
        self.assertEqual(answered(who(4), who(GREATEST), begin(1), who(0), who(GREATEST)), [-61, -61, 0, -61, -61])


class Weigh(unittest.TestCase):
    FILLED = [begin(4), room(2), room(2), wish(0, 1), wish(1, 0), wish(2, 3), fill()]

    def test_behind_fill(self):
        self.assertEqual(answered(*self.FILLED, weigh())[-2:], [[4, 3], [4, 3]])

    def test_two_numbers_are_answered(self):
        self.assertEqual(ask(*self.FILLED, weigh())[-3:], [2, 4, 3])

    def test_without_wishes_all_are_content(self):
        self.assertEqual(last_answered(begin(3), room(3), fill(), weigh()), [3, 0])

    def test_behind_move(self):
        given = answered(*self.FILLED, beds(1, 3), move(1, 1), weigh(), move(1, 0), weigh())
        self.assertEqual(given[-5:], [1, 2, [2, 1], 4, [4, 3]])

    def test_behind_swap(self):
        given = answered(*self.FILLED, swap(0, 2), weigh(), swap(1, 3), weigh())
        self.assertEqual(given[-4:], [1, [1, 0], 4, [4, 3]])

    def test_behind_what_is_refused(self):
        given = answered(*self.FILLED, move(0, 1), swap(4, 0), weigh())
        self.assertEqual(given[-3:], [-28, -2, [4, 3]])

    def test_behind_a_wish_told(self):
        given = answered(*self.FILLED, wish(3, 0), weigh(), wish(3, 2), weigh(), wish(0, 3), weigh())
        self.assertEqual(given[-6:], [0, [3, 3], 0, [4, 4], 0, [4, 4]])

    def test_behind_a_wish_taken_back(self):
        given = answered(*self.FILLED, swap(0, 2), weigh(), wish(0, 1, 0), weigh(), wish(2, 3, 0), weigh())
        self.assertEqual(given[-6:], [1, [1, 0], 0, [2, 0], 0, [3, 0]])

    def test_a_fulfilled_wish_taken_back(self):
        given = answered(*self.FILLED, wish(0, 2), wish(0, 1, 0), weigh(), wish(0, 2, 0), weigh())
        self.assertEqual(given[-5:], [0, 0, [3, 2], 0, [4, 2]])

    def test_a_wish_leaves_the_filling_as_it_is(self):
        given = answered(*self.FILLED, wish(0, 2), wish(2, 0), wish(0, 1, 0), who(0), who(1), state())
        self.assertEqual(given[-3:], [[2, 0, 1], [2, 2, 3], [1, 2, 4, 0]])

    def test_several_wishes_of_one_pupil(self):
        calls = [begin(4), room(4), wish(0, 1), wish(0, 2), wish(0, 3), fill(), weigh(), room(4), move(3, 1), weigh()]
        self.assertEqual(answered(*calls)[-5:], [[4, 3], [4, 3], 1, 4, [4, 2]])

    def test_no_filling(self):
        given = answered(weigh(), begin(1), weigh(), room(1), weigh(), fill(), weigh(), begin(1), weigh())
        self.assertEqual(given, [-61, 0, -61, 0, -61, [1, 0], [1, 0], 0, -61])


class State(unittest.TestCase):
    def test_no_plan(self):
        self.assertEqual(answered(state(), begin(0), state(), begin(9), state()), [-61, -22, -61, -22, -61])

    def test_a_new_plan(self):
        self.assertEqual(ask(begin(8), state()), [1, 0, 4, 0, 0, 0, 0])

    def test_rooms_wishes_and_bars_are_counted(self):
        calls = [begin(5), room(1), room(0), room(2), wish(0, 1), wish(1, 0), bar(2, 3), bar(3, 2), wish(0, 1)]
        self.assertEqual(last_answered(*calls, state()), [0, 3, 2, 1])
        self.assertEqual(last_answered(*calls, wish(0, 1, 0), bar(3, 2, 0), room(9), state()), [0, 3, 1, 0])

    def test_with_and_without_a_filling(self):
        calls = [begin(2), room(1), state(), room(1), fill(), state(), beds(1, 0), state()]
        given = answered(*calls)
        self.assertEqual(given[2:], [[0, 1, 0, 0], 1, [2, 0], [1, 2, 0, 0], 0, [0, 2, 0, 0]])

    def test_the_most_there_can_be(self):
        calls = [begin(8)] + [room(8)] * 5
        calls += [wish(a, b) for a, b in all_pairs(8)] + [bar(a, b) for a, b in all_pairs(8)]
        self.assertEqual(last_answered(*calls, state()), [0, 4, 32, 28])

    def test_begin_behind_a_filling(self):
        calls = [begin(2), room(2), wish(0, 1), fill(), state(), begin(2), state(), begin(9), state()]
        self.assertEqual(answered(*calls)[-5:], [[1, 1, 1, 0], 0, [0, 0, 0, 0], -22, [0, 0, 0, 0]])
