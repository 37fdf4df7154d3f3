"""What holds, a to d, over many plans."""

import copy
import random
import unittest

from roomsharedesk.desk import answer
from roomsharedesk.journey import Journey
from tests.asking import (
    GREATEST, answered, bar, beds, begin, fill, filling_behind, move, pin, room, state, swap, weigh, who, wish,
)
from tests.making import any_call, plan_calls
from tests.plain import keeps, may_be

CHANGING = {
    "begin": 1, "room": 3, "beds": 12, "wish": 12, "bar": 8, "pin": 10, "fill": 12, "move": 20, "swap": 20, "who": 1,
    "weigh": 1, "state": 1,
}


def told(journey, call):
    return answer(journey, call[0], call[1:])


def filled_plans(name, so_many):
    """Journeys with a filling, each with the calls that led there."""
    source = random.Random(name)
    while so_many > 0:
        calls = plan_calls(source, source.randint(1, 6), source.randint(1, 4), 6) + [fill()]
        journey = Journey()
        for call in calls:
            last = told(journey, call)
        if last[0] >= 0:
            so_many -= 1
            yield source, calls, journey


class AlwaysRight(unittest.TestCase):
    """a. The filling always may be, and keeps to pins."""

    def test_behind_each_call(self):
        seen = 0
        source = random.Random("always right")
        for turn in range(40):
            pupils = source.randint(2, 6)
            journey = Journey()
            for call in plan_calls(source, pupils, source.randint(2, 4), 5):
                told(journey, call)
            for step in range(150):
                call = any_call(source, pupils, CHANGING)
                told(journey, call)
                if told(journey, state())[0] == 1:
                    seen += 1
                    self.check_filling(journey, call)
        self.assertGreater(seen, 1000)

    def check_filling(self, journey, call):
        inside = [told(journey, who(number))[1:] for number in range(len(journey.rooms))]
        filling = {pupil: number for number, group in enumerate(inside) for pupil in group}
        rooms = [filling[pupil] for pupil in range(journey.pupils)]
        self.assertEqual(sum(len(group) for group in inside), journey.pupils, call)
        self.assertTrue(may_be(rooms, journey.rooms, list(journey.bars)), call)
        self.assertTrue(keeps(rooms, journey.pins), call)


class NoneMoreContent(unittest.TestCase):
    """b. Filled, no moves and swaps make more content."""

    def test_long_walks(self):
        changed = 0
        for source, calls, journey in filled_plans("walks", 150):
            most = told(journey, weigh())
            pupils = journey.pupils
            for step in range(60):
                a = source.randrange(pupils)
                call = source.choice((move(a, source.randrange(len(journey.rooms))), swap(a, source.randrange(pupils))))
                number = told(journey, call)[0]
                changed += number >= 0
                self.assertLessEqual(number, most[0], calls)
                self.assertLessEqual(told(journey, weigh()), most, calls)
        self.assertGreater(changed, 1000)


class Again(unittest.TestCase):
    """c. Filled again it's the same; swapped twice it's as it was."""

    def test_filled_again(self):
        for source, calls, journey in filled_plans("again", 150):
            first = list(journey.filling)
            weight = told(journey, weigh())
            self.assertEqual(told(journey, fill()), weight, calls)
            self.assertEqual(journey.filling, first, calls)

    def test_filled_again_behind_changes(self):
        for source, calls, journey in filled_plans("again behind changes", 150):
            first = list(journey.filling)
            for step in range(20):
                told(journey, swap(source.randrange(journey.pupils), source.randrange(journey.pupils)))
                told(journey, move(source.randrange(journey.pupils), source.randrange(len(journey.rooms))))
            told(journey, fill())
            self.assertEqual(journey.filling, first, calls)

    def test_swapped_twice(self):
        swapped = 0
        for source, calls, journey in filled_plans("swapped", 100):
            for a in range(journey.pupils):
                for b in range(journey.pupils):
                    before = list(journey.filling)
                    content = told(journey, weigh())[0]
                    if told(journey, swap(a, b))[0] >= 0:
                        swapped += before != journey.filling
                        self.assertEqual(told(journey, source.choice((swap(a, b), swap(b, a)))), [content], calls)
                    self.assertEqual(journey.filling, before, calls)
        self.assertGreater(swapped, 100)


class RefusedChangesNothing(unittest.TestCase):
    """d. What's refused changes nothing."""

    def test_over_many_calls(self):
        refused = {}
        source = random.Random("refused")
        for turn in range(60):
            pupils = source.randint(1, 6)
            journey = Journey()
            for call in plan_calls(source, pupils, source.randint(0, 4), 5) * source.randint(0, 1):
                told(journey, call)
            for step in range(150):
                call = any_call(source, pupils, CHANGING)
                before = copy.deepcopy(vars(journey))
                number = told(journey, call)[0]
                if number < 0:
                    refused[(call[0], number)] = True
                    self.assertEqual(vars(journey), before, call)
        self.assertEqual(sorted(refused), sorted(REFUSALS))

    def test_seen_from_outside(self):
        # Behind these: 0 and 3 in room 0, 1 in room 1, 2 in room 2.
        calls = [
            begin(4), room(2), room(2), room(1), room(0), wish(0, 3), wish(1, 2), bar(0, 1), bar(2, 1), pin(2, 3),
            fill(),
        ]
        refused = [
            begin(0), room(1), room(9), beds(4, 1), beds(0, 9), wish(0, 3), wish(1, 1), bar(1, 0), bar(3, 2, 0),
            pin(4, 1), pin(0, 5), move(4, 0), move(2, 0), move(1, 2), move(1, 3), move(0, 1), swap(0, 4), swap(2, 0),
            swap(3, 1), who(4), who(GREATEST),
        ]
        behind = [state(), weigh(), who(0), who(1), who(2), who(3), pin(2, 3), beds(0, 2), fill(), who(0), who(1)]
        self.assertEqual(filling_behind(*calls), [0, 1, 2, 0])
        due = answered(*calls, *behind)[-len(behind):]
        for call in refused:
            with self.subTest(call=call):
                given = answered(*calls, call, *behind)[-len(behind) - 1:]
                self.assertLess(given[0], 0)
                self.assertEqual(given[1:], due)


# Each call's number with each refusal that can come up; a 33rd wish and a 33rd bar are beyond six pupils' random calls.
REFUSALS = [
    (0, -22),
    (1, -61), (1, -22), (1, -12),
    (2, -2), (2, -22),
    (3, -61), (3, -22), (3, -17),
    (4, -61), (4, -22), (4, -17),
    (5, -2),
    (6, -61), (6, -33),
    (7, -61), (7, -2), (7, -13), (7, -28), (7, -1),
    (8, -61), (8, -2), (8, -13), (8, -1),
    (9, -61), (9, -2),
    (10, -61),
    (11, -61),
]
