"""Promise 5: fill, and what it stands for."""

import random
import unittest

from roomsharedesk.journey import Journey
from tests.asking import (
    all_pairs, answered, ask, bar, beds, begin, fill, filling_behind, last_answered, move, pin, room, state, weigh,
    who, wish,
)
from tests.making import plan_calls
from tests.plain import PlainJourney


class AgainstEveryFilling(unittest.TestCase):
    """Held against a plain search through every filling."""

    def check(self, calls):
        plain = PlainJourney()
        for call in calls:
            plain.answer(call)
        self.assertEqual(last_answered(*calls, fill()), plain.fill(), calls)
        self.assertEqual(filling_behind(*calls, fill()), plain.filling, calls)
        return plain.filling is not None

    def check_many(self, name, so_many, pupils, rooms, most_beds):
        source = random.Random(name)
        filled = 0
        for turn in range(so_many):
            filled += self.check(plan_calls(source, source.randint(*pupils), source.randint(*rooms), most_beds))
        # Plans of both kinds are to come up, or the test shows little.
        self.assertGreater(filled, so_many // 5)
        self.assertLess(filled, so_many)

    def test_small_plans(self):
        self.check_many("small", 1200, (1, 4), (0, 4), 8)

    def test_small_plans_with_few_beds(self):
        self.check_many("few beds", 800, (2, 5), (2, 4), 3)

    def test_greater_plans(self):
        self.check_many("greater", 60, (6, 7), (2, 4), 4)

    def test_plans_of_8_pupils_and_4_rooms(self):
        self.check_many("greatest", 12, (8, 8), (4, 4), 4)

    def test_each_plan_of_2_pupils_and_2_rooms(self):
        for first in range(3):
            for second in range(3):
                for wishes in ([], [wish(0, 1)], [wish(1, 0)], [wish(0, 1), wish(1, 0)]):
                    for told in ([], [bar(1, 0)], [pin(0, 1)], [pin(0, 2)], [pin(1, 1)], [pin(0, 2), pin(1, 1)]):
                        self.check([begin(2), room(first), room(second)] + wishes + told)


class Fill(unittest.TestCase):
    def test_no_plan(self):
        self.assertEqual(answered(fill(), begin(0), fill(), begin(9), fill()), [-61, -22, -61, -22, -61])

    def test_without_rooms(self):
        for pupils in range(1, 9):
            with self.subTest(pupils=pupils):
                given = answered(begin(pupils), fill(), state(), weigh(), who(0))
                self.assertEqual(given, [0, -33, [0, 0, 0, 0], -61, -61])

    def test_without_rooms_then_with_one(self):
        self.assertEqual(answered(begin(1), fill(), room(1), fill(), who(0)), [0, -33, 0, [1, 0], [1, 0]])

    def test_one_pupil_and_one_room(self):
        self.assertEqual(ask(begin(1), room(1), fill()), [1, 0, 1, 0, 2, 1, 0])

    def test_too_few_beds(self):
        given = answered(begin(4), room(2), room(1), fill(), beds(1, 2), fill(), state())
        self.assertEqual(given, [0, 0, 1, -33, 0, [4, 0], [1, 2, 0, 0]])

    def test_a_room_without_beds_alone(self):
        self.assertEqual(answered(begin(1), room(0), fill(), state()), [0, 0, -33, [0, 1, 0, 0]])

    def test_a_room_without_beds_stays_empty(self):
        given = answered(begin(3), room(0), room(3), room(0), fill(), who(0), who(1), who(2))
        self.assertEqual(given, [0, 0, 1, 2, [3, 0], 0, [3, 0, 1, 2], 0])

    def test_pinned_to_a_room_without_beds(self):
        given = answered(begin(2), room(0), room(8), pin(1, 1), fill(), pin(1, 0), fill(), who(1))
        self.assertEqual(given, [0, 0, 1, 0, -33, 0, [2, 0], [2, 0, 1]])

    def test_more_pinned_than_there_are_beds(self):
        given = answered(begin(3), room(2), room(8), pin(0, 1), pin(1, 1), pin(2, 1), fill(), pin(1, 2), fill(), who(0))
        self.assertEqual(given, [0, 0, 1, 0, 0, 0, -33, 0, [3, 0], [2, 0, 2]])

    def test_pinned_together_though_barred(self):
        given = answered(begin(2), room(2), room(2), bar(1, 0), pin(0, 2), pin(1, 2), fill(), pin(0, 0), fill(), who(1))
        self.assertEqual(given, [0, 0, 1, 0, 0, 0, -33, 0, [2, 0], [1, 1]])

    def test_pins_are_kept_against_wishes(self):
        calls = [begin(3), room(3), room(3), wish(0, 1), wish(1, 0), wish(0, 2), wish(2, 0), pin(0, 2), pin(2, 1)]
        self.assertEqual(last_answered(*calls, fill()), [2, 2])
        self.assertEqual(filling_behind(*calls, fill()), [1, 1, 0])

    def test_bars_are_kept_against_wishes(self):
        calls = [begin(3), room(3), room(3), wish(0, 2), wish(2, 0), bar(2, 0)]
        self.assertEqual(last_answered(*calls, fill()), [1, 0])
        self.assertEqual(filling_behind(*calls, fill()), [0, 0, 1])

    def test_all_barred_from_one_another(self):
        calls = [begin(5)] + [room(8)] * 4 + [bar(a, b) for a, b in all_pairs(5) if a > b]
        self.assertEqual(last_answered(*calls, fill()), [-33])
        self.assertEqual(last_answered(*calls, bar(1, 4, 0), fill()), [5, 0])
        self.assertEqual(filling_behind(*calls, bar(1, 4, 0), fill()), [0, 1, 2, 3, 1])

    def test_the_wish_of_one_is_not_that_of_the_other(self):
        calls = [begin(3), room(1), room(2), wish(2, 0)]
        self.assertEqual(last_answered(*calls, fill()), [3, 1])
        self.assertEqual(filling_behind(*calls, fill()), [1, 0, 1])

    def test_of_two_as_good_ones_the_first(self):
        # 0 may be with 1 or with 2, and the other is content anyway.
        calls = [begin(3), room(2), room(1), wish(0, 1), wish(0, 2)]
        self.assertEqual(last_answered(*calls, fill()), [3, 1])
        self.assertEqual(filling_behind(*calls, fill()), [0, 0, 1])

    def test_the_first_is_told_by_the_first_pupil_who_differs(self):
        # [0, 1, 1, 1] and [1, 0, 0, 0] are as good: the rooms' sum would tell them the other way round.
        calls = [begin(4), room(3), room(3), bar(0, 1), wish(1, 2), wish(2, 3), wish(3, 1)]
        self.assertEqual(last_answered(*calls, fill()), [4, 3])
        self.assertEqual(filling_behind(*calls, fill()), [0, 1, 1, 1])

    def test_without_wishes_the_first_of_all(self):
        calls = [begin(8), room(3), room(0), room(1), room(8)]
        self.assertEqual(filling_behind(*calls, fill()), [0, 0, 0, 2, 3, 3, 3, 3])

    def test_more_content_goes_ahead_of_more_wishes(self):
        # With 0, 1 and 2 in one room four wishes are fulfilled, but 3 is not content.
        calls = [begin(4), room(3), room(2), bar(0, 3)]
        calls += [wish(a, b) for a, b in ((0, 1), (0, 2), (2, 0), (2, 1), (3, 1))]
        self.assertEqual(last_answered(*calls, fill()), [4, 3])
        self.assertEqual(filling_behind(*calls, fill()), [0, 1, 0, 1])
        self.assertEqual(answered(*calls, fill(), move(1, 0), weigh())[-2:], [3, [3, 4]])

    def test_as_many_content_with_more_wishes(self):
        calls = [begin(4), room(2), room(2), wish(0, 1), wish(0, 3), wish(3, 0), wish(1, 2), wish(1, 0)]
        given = last_answered(*calls, fill())
        self.assertEqual(given, [4, 3])
        self.assertEqual(filling_behind(*calls, fill()), [0, 1, 1, 0])

    def test_refused_where_there_is_none_there_is_none_behind(self):
        given = answered(begin(2), room(1), fill(), state(), weigh(), who(0), room(1), fill(), state())
        self.assertEqual(given, [0, 0, -33, [0, 1, 0, 0], -61, -61, 1, [2, 0], [1, 2, 0, 0]])

    def test_refused_behind_one_that_is_gone(self):
        given = answered(begin(2), room(2), fill(), beds(0, 1), fill(), state(), beds(0, 2), state(), fill())
        self.assertEqual(given, [0, 0, [2, 0], 0, -33, [0, 1, 0, 0], 0, [0, 1, 0, 0], [2, 0]])

    def test_refused_behind_a_filling_it_stays_as_it_was(self):
        # By calls alone it can't come up, as the filling itself is one that may be and keeps to pins.
        journey = Journey()
        journey.begin(2)
        journey.room(1)
        journey.filling = [0, 0]
        self.assertEqual(journey.fill(), [-33])
        self.assertEqual(journey.filling, [0, 0])

    def test_a_filling_made_by_hand_gives_way_to_the_best(self):
        calls = [begin(2), room(2), room(2), wish(0, 1), fill(), move(1, 1)]
        self.assertEqual(filling_behind(*calls), [0, 1])
        self.assertEqual(last_answered(*calls, fill()), [2, 1])
        self.assertEqual(filling_behind(*calls, fill()), [0, 0])

    def test_wishes_may_be_told_in_any_order(self):
        pairs = [(0, 1), (2, 0), (1, 3), (3, 2), (2, 1)]
        begun = [begin(4), room(2), room(2)]
        forth = filling_behind(*begun, *[wish(a, b) for a, b in pairs], fill())
        back = filling_behind(*begun, *[wish(a, b) for a, b in reversed(pairs)], fill())
        self.assertEqual(forth, back)


class Greatest(unittest.TestCase):
    def calls(self, beds_of, pairs):
        return [begin(8)] + [room(so_many) for so_many in beds_of] + [wish(a, b) for a, b in pairs]

    def test_all_32_wishes_in_one_room(self):
        calls = self.calls([8, 8, 8, 8], all_pairs(8)[:32])
        self.assertEqual(last_answered(*calls, fill()), [8, 32])
        self.assertEqual(filling_behind(*calls, fill()), [0] * 8)
        self.assertEqual(last_answered(*calls, fill(), who(0)), [8, 0, 1, 2, 3, 4, 5, 6, 7])

    def test_32_wishes_in_rooms_of_two_and_three_beds(self):
        for name, beds_of in (("twos", [2, 2, 2, 2]), ("threes", [3, 3, 3, 3]), ("many", [8, 8, 8, 8])):
            with self.subTest(name=name):
                calls = self.calls(beds_of, random.Random(name).sample(all_pairs(8), 32)) + [bar(0, 1), bar(6, 3)]
                plain = PlainJourney()
                for call in calls:
                    plain.answer(call)
                self.assertEqual(last_answered(*calls, state()), [0, 4, 32, 2])
                self.assertEqual(last_answered(*calls, fill()), plain.fill())
                self.assertEqual(filling_behind(*calls, fill()), plain.filling)

    def test_filled_many_times(self):
        calls = self.calls([8, 8, 8, 8], random.Random("often").sample(all_pairs(8), 32))
        calls += [bar(0, 1), bar(2, 5), bar(7, 6)]
        first = last_answered(*calls, fill())
        given = answered(*calls, *[fill()] * 300)
        self.assertEqual(given[-300:], [first] * 300)
