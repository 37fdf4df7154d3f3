"""Promise 8: a filling that may not be any more, or doesn't keep to pins, is gone; and what leaves it there."""

import unittest

from tests.asking import (
    GREATEST, answered, bar, beds, begin, fill, filling_behind, last_answered, move, pin, room, state, swap, weigh,
    who, wish,
)

# Behind these: 0 and 1 in room 0, 2 in room 1, nobody in room 2.
FILLED = [begin(3), room(2), room(2), room(0), wish(0, 1), fill()]


class Gone(unittest.TestCase):
    def check_left(self, *calls):
        """The last of the calls answers 1, and the filling is as it was."""
        self.assertEqual(last_answered(*FILLED, *calls), [1])
        self.assertEqual(filling_behind(*FILLED, *calls), [0, 0, 1])
        self.assertEqual(last_answered(*FILLED, *calls, weigh()), [3, 1])

    def check_gone(self, *calls):
        """The last of the calls answers 0, and there's no filling behind it."""
        self.assertEqual(last_answered(*FILLED, *calls), [0])
        asked = answered(*FILLED, *calls, state(), weigh(), who(0), move(0, 0), swap(0, 0))[-5:]
        self.assertEqual(asked[0][0], 0)
        self.assertEqual(asked[1:], [-61] * 4)


class BehindBeds(Gone):
    def test_left(self):
        for call in (beds(0, 2), beds(0, 8), beds(1, 1), beds(1, 8), beds(2, 0), beds(2, 8)):
            with self.subTest(call=call):
                self.check_left(call)

    def test_gone(self):
        for call in (beds(0, 1), beds(0, 0), beds(1, 0)):
            with self.subTest(call=call):
                self.check_gone(call)

    def test_it_stays_gone(self):
        self.check_gone(beds(0, 1), beds(0, 2))
        self.check_gone(beds(1, 0), beds(1, 8))
        self.assertEqual(answered(*FILLED, beds(0, 1), beds(0, 2), fill(), beds(0, 2))[-4:], [0, 0, [3, 1], 1])

    def test_refused_it_is_left(self):
        for call, number in ((beds(3, 0), -2), (beds(0, 9), -22), (beds(0, GREATEST), -22), (beds(GREATEST, 0), -2)):
            with self.subTest(call=call):
                self.assertEqual(last_answered(*FILLED, call), [number])
                self.check_left(call, beds(0, 2))

    def test_a_room_that_was_left_may_lose_its_beds(self):
        given = answered(*FILLED, move(1, 1), move(0, 1), beds(1, 3), move(0, 1), beds(0, 0), weigh())
        self.assertEqual(given[-6:], [2, -28, 1, 3, 1, [3, 1]])


class BehindBar(Gone):
    def test_left(self):
        for call in (bar(0, 2), bar(2, 0), bar(1, 2), bar(2, 1)):
            with self.subTest(call=call):
                self.check_left(call)

    def test_gone(self):
        for call in (bar(0, 1), bar(1, 0)):
            with self.subTest(call=call):
                self.check_gone(call)
                self.assertEqual(last_answered(*FILLED, call, state()), [0, 3, 1, 1])

    def test_taken_back_behind_a_filling(self):
        self.check_left(bar(2, 0), bar(2, 0, 0))
        self.check_left(bar(2, 0), bar(1, 2), bar(0, 2, 0))

    def test_it_stays_gone(self):
        self.check_gone(bar(1, 0), bar(0, 1, 0))
        self.check_gone(bar(1, 0), bar(2, 0))
        self.assertEqual(answered(*FILLED, bar(1, 0), bar(0, 1, 0), fill(), bar(0, 2))[-4:], [0, 0, [3, 1], 1])

    def test_refused_it_is_left(self):
        for call, number in ((bar(0, 0), -22), (bar(0, 1, 2), -22), (bar(0, 3), -22), (bar(0, 1, 0), -17)):
            with self.subTest(call=call):
                self.assertEqual(last_answered(*FILLED, call), [number])
                self.check_left(call, beds(0, 2))

    def test_two_who_were_moved_apart(self):
        self.assertEqual(answered(*FILLED, move(0, 1), bar(0, 1), bar(0, 2))[-3:], [2, 1, 0])


class BehindPin(Gone):
    def test_left(self):
        for call in (pin(0, 1), pin(1, 1), pin(2, 2), pin(0, 0), pin(2, 0)):
            with self.subTest(call=call):
                self.check_left(call)

    def test_gone(self):
        for call in (pin(0, 2), pin(1, 3), pin(2, 1), pin(2, 3)):
            with self.subTest(call=call):
                self.check_gone(call)

    def test_taken_back_behind_a_filling(self):
        self.check_left(pin(0, 1), pin(0, 0))

    def test_it_stays_gone(self):
        self.check_gone(pin(0, 2), pin(0, 0))
        self.check_gone(pin(0, 2), pin(0, 1))
        self.assertEqual(answered(*FILLED, pin(0, 2), pin(0, 0), fill(), pin(0, 1))[-4:], [0, 0, [3, 1], 1])

    def test_refused_it_is_left(self):
        for call in (pin(3, 0), pin(3, 2), pin(0, 4), pin(GREATEST, 2), pin(0, GREATEST)):
            with self.subTest(call=call):
                self.assertEqual(last_answered(*FILLED, call), [-2])
                self.check_left(call, beds(0, 2))

    def test_one_who_was_moved(self):
        self.assertEqual(answered(*FILLED, move(0, 1), pin(0, 2), pin(0, 1))[-3:], [2, 1, 0])

    def test_where_the_pin_says_behind_it(self):
        self.assertEqual(filling_behind(*FILLED, pin(0, 2), fill()), [1, 1, 0])


class BehindOthers(Gone):
    def test_behind_fill(self):
        self.assertEqual(filling_behind(*FILLED), [0, 0, 1])

    def test_a_room_leaves_it(self):
        self.assertEqual(last_answered(*FILLED, room(8)), [3])
        self.assertEqual(last_answered(*FILLED, room(8), state()), [1, 4, 1, 0])
        self.check_left(room(8), beds(3, 0))
        self.check_left(room(9), beds(2, 0))

    def test_a_wish_leaves_it(self):
        self.assertEqual(answered(*FILLED, wish(0, 2), wish(0, 1, 0), state())[-3:], [0, 0, [1, 3, 1, 0]])
        self.assertEqual(filling_behind(*FILLED, wish(0, 2), wish(0, 1, 0)), [0, 0, 1])

    def test_with_begin_it_is_gone(self):
        given = answered(*FILLED, begin(3), state(), weigh(), who(0), move(0, 0), swap(0, 1), room(2), beds(0, 2))
        self.assertEqual(given[-8:], [0, [0, 0, 0, 0], -61, -61, -61, -61, 0, 0])

    def test_a_refused_begin_leaves_it(self):
        for pupils in (0, 9, GREATEST):
            with self.subTest(pupils=pupils):
                self.check_left(begin(pupils), beds(0, 2))

    def test_what_is_asked_leaves_it(self):
        self.check_left(who(0), weigh(), state(), who(GREATEST), beds(0, 2))
