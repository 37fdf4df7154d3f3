"""Promise 4: pin."""

import unittest

from roomsharedesk.journey import Journey
from tests.asking import GREATEST, ask, begin, each_one, pin, room


class Pin(unittest.TestCase):
    def test_pinned_to_rooms_and_not_any_more(self):
        given = ask(begin(3), room(2), room(1), pin(0, 1), pin(1, 2), pin(0, 2), pin(0, 0), pin(2, 0))
        self.assertEqual(given, each_one(0, 0, 1, 0, 0, 0, 0, 0))

    def test_where_up_to_the_number_of_rooms(self):
        for rooms in range(5):
            with self.subTest(rooms=rooms):
                calls = [begin(2)] + [room(1)] * rooms
                calls += [pin(1, 0), pin(1, rooms), pin(1, rooms + 1), pin(1, GREATEST)]
                self.assertEqual(ask(*calls), each_one(0, *range(rooms), 0, 0, -2, -2))

    def test_a_room_told_later_may_be_pinned_to(self):
        given = ask(begin(1), pin(0, 1), room(1), pin(0, 1), pin(0, 2), room(1), pin(0, 2))
        self.assertEqual(given, each_one(0, -2, 0, 0, -2, 1, 0))

    def test_no_such_pupil(self):
        given = ask(begin(3), room(1), pin(2, 1), pin(3, 1), pin(3, 0), pin(8, 0), pin(GREATEST, 1), pin(3, 2))
        self.assertEqual(given, each_one(0, 0, 0, -2, -2, -2, -2, -2))

    def test_more_pinned_than_there_are_beds(self):
        given = ask(begin(2), room(0), pin(0, 1), pin(1, 1))
        self.assertEqual(given, each_one(0, 0, 0, 0))

    def test_each_pupil_keeps_the_last_pin(self):
        journey = Journey()
        journey.begin(4)
        journey.room(2)
        journey.room(2)
        for a, where in ((0, 1), (1, 2), (2, 2), (0, 2), (1, 0)):
            self.assertEqual(journey.pin(a, where), 0)
        self.assertEqual(journey.pins, [2, 0, 2, 0])

    def test_refused_the_pins_are_as_they_were(self):
        journey = Journey()
        journey.begin(2)
        journey.room(2)
        journey.pin(1, 1)
        for a, where in ((1, 2), (2, 0), (2, 1), (GREATEST, 0), (0, GREATEST)):
            with self.subTest(a=a, where=where):
                self.assertEqual(journey.pin(a, where), -2)
                self.assertEqual(journey.pins, [0, 1])

    def test_1_where_there_is_a_filling_still(self):
        journey = Journey()
        journey.begin(2)
        journey.room(2)
        journey.filling = [0, 0]
        self.assertEqual([journey.pin(1, 1), journey.pin(1, 0)], [1, 1])
