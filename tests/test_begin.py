"""Promise 1: begin, and the -61 of room, wish, bar, fill and state."""

import unittest

from roomsharedesk.journey import Journey
from tests.asking import GREATEST, ask, bar, beds, begin, each_one, fill, pin, room, state, wish


class Begin(unittest.TestCase):
    def test_each_number_of_pupils(self):
        for pupils in range(1, 9):
            with self.subTest(pupils=pupils):
                self.assertEqual(ask(begin(pupils)), each_one(0))

    def test_wrong_numbers_of_pupils(self):
        for pupils in (0, 9, 10, 256, 4294967288, GREATEST):
            with self.subTest(pupils=pupils):
                self.assertEqual(ask(begin(pupils)), each_one(-22))

    def test_so_many_pupils_are_there(self):
        for pupils in range(1, 9):
            with self.subTest(pupils=pupils):
                given = ask(begin(pupils), pin(pupils - 1, 0), pin(pupils, 0))
                self.assertEqual(given, each_one(0, 0, -2))

    def test_begin_behind_other_calls_begins_anew(self):
        given = ask(
            begin(3), room(2), room(4), wish(0, 1), bar(1, 2), pin(2, 2),
            begin(4),
            beds(0, 1), pin(0, 1), wish(0, 1, 0), bar(1, 2, 0), pin(3, 0), room(5), wish(0, 1), bar(2, 1),
        )
        due = each_one(
            0, 0, 1, 0, 0, 0,
            0,
            -2, -2, -17, -17, 0, 0, 0, 0,
        )
        self.assertEqual(given, due)

    def test_begin_anew_with_fewer_pupils(self):
        given = ask(begin(8), pin(7, 0), begin(2), pin(7, 0), pin(2, 0), wish(1, 2), wish(1, 0))
        self.assertEqual(given, each_one(0, 0, 0, -2, -2, -22, 0))

    def test_begin_takes_pins_beds_and_filling_away(self):
        journey = filled_journey()
        self.assertEqual(journey.begin(3), 0)
        self.assertEqual(vars(journey), vars_of_a_new_plan(3))

    def test_refused_begin_leaves_all_as_it_was(self):
        for pupils in (0, 9, GREATEST):
            with self.subTest(pupils=pupils):
                given = ask(
                    begin(3), room(2), wish(0, 1), bar(1, 2),
                    begin(pupils),
                    room(3), wish(0, 1), bar(2, 1), pin(2, 2), pin(3, 0), beds(0, 8), beds(1, 8), beds(2, 8),
                )
                due = each_one(
                    0, 0, 0, 0,
                    -22,
                    1, -17, -17, 0, -2, 0, 0, -2,
                )
                self.assertEqual(given, due)

    def test_refused_begin_leaves_pins_and_filling(self):
        journey = filled_journey()
        self.assertEqual(journey.begin(9), -22)
        self.assertEqual((journey.rooms, journey.pins, journey.filling), ([2], [0, 1], [0, 0]))


class NoPlan(unittest.TestCase):
    def test_room_wish_and_bar(self):
        given = ask(room(2), wish(0, 1), wish(0, 1, 0), bar(0, 1), bar(0, 1, 0))
        self.assertEqual(given, each_one(-61, -61, -61, -61, -61))

    def test_fill_and_state(self):
        self.assertEqual(ask(fill(), state(), begin(9), fill(), state()), each_one(-61, -61, -22, -61, -61))

    def test_it_comes_ahead_of_the_other_refusals(self):
        given = ask(
            room(9), room(GREATEST),
            wish(3, 3), wish(0, 1, 2), wish(GREATEST, GREATEST, GREATEST),
            bar(3, 3), bar(0, 1, 2), bar(GREATEST, GREATEST, GREATEST),
        )
        self.assertEqual(given, each_one(*[-61] * 8))

    def test_beds_and_pin_find_nothing(self):
        given = ask(beds(0, 2), beds(0, 9), pin(0, 0), pin(0, 1), pin(GREATEST, GREATEST))
        self.assertEqual(given, each_one(-2, -2, -2, -2, -2))

    def test_refused_begin_makes_no_plan(self):
        given = ask(begin(0), room(1), begin(9), wish(0, 1), begin(GREATEST), bar(0, 1), pin(0, 0))
        self.assertEqual(given, each_one(-22, -61, -22, -61, -22, -61, -2))

    def test_what_was_refused_is_not_there_behind_begin(self):
        given = ask(room(2), wish(0, 1), bar(0, 1), begin(2), room(2), wish(0, 1), bar(0, 1))
        self.assertEqual(given, each_one(-61, -61, -61, 0, 0, 0, 0))


def filled_journey():
    journey = Journey()
    journey.begin(2)
    journey.room(2)
    journey.pin(1, 1)
    journey.filling = [0, 0]
    return journey


def vars_of_a_new_plan(pupils):
    return {"pupils": pupils, "rooms": [], "wishes": {}, "bars": {}, "pins": [0] * pupils, "filling": None}
