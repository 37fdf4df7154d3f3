"""Promise 2: room and beds."""

import unittest

from roomsharedesk.journey import Journey
from tests.asking import GREATEST, ask, beds, begin, each_one, room


class Room(unittest.TestCase):
    def test_rooms_are_numbered_from_0(self):
        given = ask(begin(5), room(2), room(0), room(8), room(3))
        self.assertEqual(given, each_one(0, 0, 1, 2, 3))

    def test_each_number_of_beds(self):
        for so_many in range(9):
            with self.subTest(beds=so_many):
                self.assertEqual(ask(begin(1), room(so_many)), each_one(0, 0))

    def test_too_many_beds(self):
        for so_many in (9, 10, 256, GREATEST):
            with self.subTest(beds=so_many):
                self.assertEqual(ask(begin(1), room(so_many), room(1)), each_one(0, -22, 0))

    def test_no_fifth_room(self):
        given = ask(begin(1), room(1), room(1), room(1), room(1), room(1), room(0), beds(3, 2), beds(4, 2))
        self.assertEqual(given, each_one(0, 0, 1, 2, 3, -12, -12, 0, -2))

    def test_too_many_beds_come_ahead_of_a_fifth_room(self):
        given = ask(begin(1), room(1), room(1), room(1), room(1), room(9), room(GREATEST), room(8))
        self.assertEqual(given, each_one(0, 0, 1, 2, 3, -22, -22, -12))

    def test_rooms_keep_their_beds(self):
        journey = Journey()
        journey.begin(2)
        for so_many in (2, 9, 0, 8, 3, 4):
            journey.room(so_many)
        self.assertEqual(journey.rooms, [2, 0, 8, 3])

    def test_room_keeps_the_filling(self):
        journey = Journey()
        journey.begin(1)
        journey.room(1)
        journey.filling = [0]
        self.assertEqual(journey.room(2), 1)
        self.assertEqual(journey.filling, [0])


class Beds(unittest.TestCase):
    def test_each_number_of_beds(self):
        for so_many in range(9):
            with self.subTest(beds=so_many):
                self.assertEqual(ask(begin(2), room(2), beds(0, so_many)), each_one(0, 0, 0))

    def test_no_such_room(self):
        given = ask(begin(2), beds(0, 1), room(2), beds(0, 1), beds(1, 1), beds(GREATEST, 1), room(2), beds(1, 1))
        self.assertEqual(given, each_one(0, -2, 0, 0, -2, -2, 1, 0))

    def test_too_many_beds(self):
        given = ask(begin(2), room(2), beds(0, 9), beds(0, GREATEST), beds(0, 8))
        self.assertEqual(given, each_one(0, 0, -22, -22, 0))

    def test_no_such_room_comes_ahead_of_too_many_beds(self):
        given = ask(begin(2), beds(0, 9), room(2), beds(1, 9), beds(GREATEST, GREATEST), beds(0, 9))
        self.assertEqual(given, each_one(0, -2, 0, -2, -2, -22))

    def test_the_room_has_so_many(self):
        journey = Journey()
        journey.begin(2)
        journey.room(2)
        journey.room(3)
        self.assertEqual([journey.beds(1, 8), journey.beds(0, 0)], [0, 0])
        self.assertEqual(journey.rooms, [0, 8])

    def test_refused_it_has_as_many_as_before(self):
        journey = Journey()
        journey.begin(2)
        journey.room(2)
        self.assertEqual([journey.beds(0, 9), journey.beds(1, 3)], [-22, -2])
        self.assertEqual(journey.rooms, [2])

    def test_1_where_there_is_a_filling_still(self):
        journey = Journey()
        journey.begin(2)
        journey.room(2)
        journey.filling = [0, 0]
        self.assertEqual(journey.beds(0, 3), 1)
