"""Promise 6: move and swap."""

import unittest

from tests.asking import (
    GREATEST, answered, ask, bar, beds, begin, fill, filling_behind, last_answered, move, pin, room, state, swap, weigh,
    wish,
)


class Change(unittest.TestCase):
    def check(self, calls, due):
        """Each call by itself, behind the filling."""
        for call, number in zip(calls, due, strict=True):
            with self.subTest(call=call):
                self.assertEqual(last_answered(*self.FILLED, call), [number])


class Move(Change):
    # Behind these: 0, 1 and 2 in room 0, 3 in room 1, nobody in room 2.
    FILLED = [begin(4), room(3), room(2), room(1), wish(0, 1), wish(1, 0), bar(3, 2), pin(3, 2), fill()]

    def test_behind_fill(self):
        self.assertEqual(last_answered(*self.FILLED), [4, 2])
        self.assertEqual(filling_behind(*self.FILLED), [0, 0, 0, 1])

    def test_how_many_are_content(self):
        self.check([move(0, 1), move(1, 2), move(2, 2)], [2, 2, 4])

    def test_it_is_in_that_room(self):
        self.assertEqual(filling_behind(*self.FILLED, move(0, 1)), [1, 0, 0, 1])
        self.assertEqual(filling_behind(*self.FILLED, move(0, 1), move(1, 2)), [1, 2, 0, 1])
        self.assertEqual(filling_behind(*self.FILLED, move(0, 1), move(1, 2), move(0, 0)), [0, 2, 0, 1])

    def test_moved_and_moved_back(self):
        given = answered(*self.FILLED, move(1, 2), move(1, 0), weigh())
        self.assertEqual(given[-3:], [2, 4, [4, 2]])
        self.assertEqual(filling_behind(*self.FILLED, move(1, 2), move(1, 0)), [0, 0, 0, 1])

    def test_only_one_number_is_answered(self):
        self.assertEqual(ask(begin(1), room(1), fill(), move(0, 0))[-2:], [1, 1])

    def test_no_filling(self):
        given = answered(move(0, 0), begin(2), room(2), move(0, 0), fill(), move(0, 0), begin(2), move(0, 0))
        self.assertEqual(given, [-61, 0, 0, -61, [2, 0], 2, 0, -61])

    def test_no_filling_comes_ahead_of_all(self):
        given = answered(move(9, 9), begin(2), move(9, 9), room(0), pin(0, 1), bar(0, 1), move(2, 0), move(0, 1))
        self.assertEqual(given, [-61, 0, -61, 0, 0, 0, -61, -61])

    def test_no_pupil_or_no_room(self):
        self.check([move(4, 0), move(0, 3), move(4, 3), move(8, 1), move(1, 4)], [-2] * 5)

    def test_no_room_comes_ahead_of_the_pin(self):
        self.check([move(3, 3), move(3, 2)], [-2, -13])

    def test_not_kept_to_pins(self):
        self.check([move(3, 0), move(3, 2)], [-13, -13])

    def test_pins_of_others_matter_not(self):
        self.check([move(0, 1)], [2])

    def test_a_pupil_pinned_where_they_are(self):
        self.check([move(3, 1)], [4])
        given = answered(*self.FILLED, pin(0, 1), move(0, 1), move(0, 0), pin(0, 0), move(0, 1))
        self.assertEqual(given[-5:], [1, -13, 4, 1, 2])

    def test_the_pin_comes_ahead_of_the_full_room(self):
        # Room 0 is full, and so is room 2 behind the first move; 3 is pinned to room 1.
        self.check([move(3, 0)], [-13])
        given = answered(*self.FILLED, move(0, 2), move(3, 2), move(1, 2))
        self.assertEqual(given[-3:], [2, -13, -28])

    def test_the_pin_comes_ahead_of_the_bar(self):
        given = answered(*self.FILLED, move(0, 2), move(3, 0), pin(3, 0), move(3, 0))
        self.assertEqual(given[-4:], [2, -13, 1, -1])

    def test_into_a_full_room(self):
        given = answered(*self.FILLED, move(0, 2), move(1, 2), move(2, 2))
        self.assertEqual(given[-3:], [2, -28, -28])

    def test_into_a_room_without_beds(self):
        given = answered(begin(1), room(1), room(0), fill(), move(0, 1), beds(1, 1), move(0, 1))
        self.assertEqual(given, [0, 0, 1, [1, 0], -28, 1, 1])

    def test_a_full_room_comes_ahead_of_the_bar(self):
        given = answered(*self.FILLED, pin(3, 0), move(3, 0), move(0, 1), move(3, 0))
        self.assertEqual(given[-4:], [1, -28, 2, -1])

    def test_a_bar_broken_either_way_round(self):
        calls = [begin(3), room(3), room(3), bar(2, 0), bar(0, 1), fill()]
        self.assertEqual(filling_behind(*calls), [0, 1, 1])
        self.assertEqual(answered(*calls, move(0, 1), move(2, 0), move(1, 0))[-3:], [-1, -1, -1])
        self.assertEqual(answered(*calls, bar(0, 2, 0), move(2, 0), move(0, 1))[-3:], [1, 3, -1])

    def test_into_ones_own_room(self):
        self.check([move(0, 0), move(1, 0), move(2, 0), move(3, 1)], [4] * 4)
        for call in (move(0, 0), move(3, 1)):
            self.assertEqual(filling_behind(*self.FILLED, call), [0, 0, 0, 1])

    def test_into_ones_own_room_that_is_full(self):
        given = answered(begin(2), room(1), room(1), bar(0, 1), pin(0, 2), fill(), move(0, 1), move(1, 0), move(1, 1))
        self.assertEqual(given[-4:], [[2, 0], 2, 2, -28])

    def test_into_a_room_told_behind_the_filling(self):
        calls = [begin(2), room(2), wish(0, 1), fill()]
        given = answered(*calls, move(0, 1), room(1), move(0, 1), move(1, 1), move(0, 2))
        self.assertEqual(given[-5:], [-2, 1, 1, -28, -2])
        self.assertEqual(filling_behind(*calls, room(1), move(0, 1)), [1, 0])

    def test_refused_all_is_as_it_was(self):
        for call in (move(4, 0), move(0, 3), move(3, 0), move(GREATEST, GREATEST)):
            with self.subTest(call=call):
                self.assertEqual(filling_behind(*self.FILLED, call), [0, 0, 0, 1])
        crowded = [*self.FILLED, pin(3, 0), move(0, 2)]
        for call, number in ((move(1, 2), -28), (move(3, 0), -1)):
            with self.subTest(call=call):
                self.assertEqual(last_answered(*crowded, call), [number])
                self.assertEqual(filling_behind(*crowded, call), [2, 0, 0, 1])

    def test_greatest_numbers(self):
        self.check([move(GREATEST, 0), move(0, GREATEST), move(GREATEST, GREATEST), move(3, GREATEST)], [-2] * 4)
        self.assertEqual(answered(move(GREATEST, GREATEST), begin(1), move(GREATEST, GREATEST)), [-61, 0, -61])


class Swap(Change):
    # Behind these: 0 and 1 in room 0, 2 and 3 in room 1, 4 in room 2.
    FILLED = [
        begin(5), room(2), room(2), room(1), wish(0, 1), wish(1, 0), wish(2, 3), bar(1, 4), bar(3, 0), pin(4, 3),
        fill(),
    ]

    def test_behind_fill(self):
        self.assertEqual(last_answered(*self.FILLED), [5, 3])
        self.assertEqual(filling_behind(*self.FILLED), [0, 0, 1, 1, 2])

    def test_how_many_are_content(self):
        self.check([swap(0, 3), swap(3, 0), swap(1, 2), swap(2, 1), swap(2, 3)], [2, 2, 2, 2, 5])

    def test_the_two_change_rooms(self):
        self.assertEqual(filling_behind(*self.FILLED, swap(0, 3)), [1, 0, 1, 0, 2])
        self.assertEqual(filling_behind(*self.FILLED, swap(3, 0)), [1, 0, 1, 0, 2])

    def test_rooms_that_are_full_stay_full(self):
        calls = [begin(3), room(1), room(1), room(1), fill(), swap(0, 2), swap(2, 1)]
        self.assertEqual(answered(*calls)[-3:], [[3, 0], 3, 3])
        self.assertEqual(filling_behind(*calls), [2, 0, 1])

    def test_only_one_number_is_answered(self):
        self.assertEqual(ask(begin(2), room(1), room(1), fill(), swap(0, 1))[-2:], [1, 2])

    def test_no_filling(self):
        given = answered(swap(0, 1), begin(2), room(2), swap(0, 1), fill(), swap(0, 1), begin(2), swap(0, 1))
        self.assertEqual(given, [-61, 0, 0, -61, [2, 0], 2, 0, -61])

    def test_no_filling_comes_ahead_of_all(self):
        given = answered(
            swap(9, 9), begin(2), swap(9, 9), room(2), room(0), pin(0, 2), bar(0, 1), swap(0, 2), swap(0, 1),
        )
        self.assertEqual(given, [-61, 0, -61, 0, 1, 0, 0, -61, -61])

    def test_no_pupil(self):
        self.check([swap(5, 0), swap(0, 5), swap(5, 5), swap(8, 1), swap(1, 8)], [-2] * 5)

    def test_no_pupil_comes_ahead_of_the_pin(self):
        self.check([swap(4, 5), swap(5, 4), swap(4, 3)], [-2, -2, -13])

    def test_not_kept_to_pins(self):
        # The pin of either of the two counts.
        self.check([swap(4, 0), swap(0, 4), swap(4, 2), swap(2, 4)], [-13] * 4)

    def test_the_pin_comes_ahead_of_the_bar(self):
        # 1 in the place of 4 or 4 beside 0 breaks nothing; 4 beside 1 does.
        self.check([swap(4, 0), swap(0, 4)], [-13, -13])
        given = answered(*self.FILLED, pin(4, 0), swap(4, 0), swap(0, 4), swap(4, 1))
        self.assertEqual(given[-4:], [1, -1, -1, 3])

    def test_a_bar_broken_by_either_of_the_two(self):
        # 0 would be with 3 in the one case, 3 with 0 in the other.
        self.check([swap(0, 2), swap(1, 3), swap(3, 1), swap(2, 0)], [-1] * 4)
        given = answered(*self.FILLED, bar(0, 3, 0), swap(1, 3), swap(0, 2))
        self.assertEqual(given[-3:], [1, 2, 5])

    def test_two_who_are_barred_may_change_rooms(self):
        given = answered(begin(2), room(1), room(1), bar(0, 1), fill(), swap(0, 1))
        self.assertEqual(given[-2:], [[2, 0], 2])

    def test_with_oneself(self):
        self.check([swap(pupil, pupil) for pupil in range(5)], [5] * 5)
        for pupil in range(5):
            self.assertEqual(filling_behind(*self.FILLED, swap(pupil, pupil)), [0, 0, 1, 1, 2])

    def test_two_in_one_room(self):
        self.check([swap(0, 1), swap(1, 0), swap(2, 3)], [5] * 3)
        self.assertEqual(filling_behind(*self.FILLED, swap(0, 1), swap(2, 3)), [0, 0, 1, 1, 2])

    def test_two_in_one_room_who_are_pinned_there(self):
        given = answered(begin(2), room(0), room(2), pin(0, 2), pin(1, 2), fill(), swap(0, 1), swap(1, 1))
        self.assertEqual(given[-3:], [[2, 0], 2, 2])

    def test_swapped_twice_it_is_as_it_was(self):
        given = answered(*self.FILLED, swap(0, 3), swap(0, 3), weigh())
        self.assertEqual(given[-3:], [2, 5, [5, 3]])
        self.assertEqual(filling_behind(*self.FILLED, swap(0, 3), swap(0, 3)), [0, 0, 1, 1, 2])
        self.assertEqual(filling_behind(*self.FILLED, swap(0, 3), swap(3, 0)), [0, 0, 1, 1, 2])

    def test_refused_all_is_as_it_was(self):
        for call in (swap(5, 0), swap(0, 5), swap(4, 0), swap(0, 4), swap(1, 3), swap(GREATEST, GREATEST)):
            with self.subTest(call=call):
                self.assertLess(last_answered(*self.FILLED, call)[0], 0)
                self.assertEqual(filling_behind(*self.FILLED, call), [0, 0, 1, 1, 2])
                self.assertEqual(last_answered(*self.FILLED, call, state()), [1, 3, 3, 2])

    def test_greatest_numbers(self):
        self.check([swap(GREATEST, 0), swap(0, GREATEST), swap(GREATEST, GREATEST), swap(4, GREATEST)], [-2] * 4)
        self.assertEqual(answered(swap(GREATEST, GREATEST), begin(1), swap(GREATEST, GREATEST)), [-61, 0, -61])
