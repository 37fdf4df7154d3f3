"""Long lists of all the calls mixed, held against a second, plain working-out of the document."""

import random
import unittest

from roomsharedesk.desk import answers
from tests.asking import as_one_list, taken_apart
from tests.making import any_call, plan_calls
from tests.plain import plain_answers

EVENLY = dict.fromkeys("begin room beds wish bar pin fill move swap who weigh state".split(), 10)
SELDOM_BEGUN = dict(EVENLY, begin=1, room=4, fill=20, move=30, swap=30)
SELDOM_GONE = dict(EVENLY, begin=0.3, room=2, beds=3, wish=40, bar=1.5, pin=2, fill=3, move=40, swap=40)


class Mixed(unittest.TestCase):
    def check(self, calls):
        given = answers(as_one_list(calls))
        due = plain_answers(calls)
        if given != due:
            for number, parts in enumerate(zip(taken_apart(given), taken_apart(due))):
                self.assertEqual(parts[0], parts[1], f"call {number} of {calls[:number + 1]}")
        self.assertEqual(given, due)

    def check_lists(self, name, so_many, long, pupils, often, planned=True):
        source = random.Random(name)
        for turn in range(so_many):
            number = source.randint(*pupils)
            calls = plan_calls(source, number, source.randint(1, 4)) if planned else []
            while len(calls) < long:
                calls.append(any_call(source, number, often))
            self.check(calls[:long])

    def test_short_lists_from_the_beginning_on(self):
        self.check_lists("short", 400, 30, (1, 4), EVENLY, planned=False)

    def test_short_lists_behind_a_plan(self):
        self.check_lists("planned", 300, 60, (1, 5), EVENLY)

    def test_lists_of_few_pupils(self):
        self.check_lists("few", 60, 400, (1, 4), SELDOM_BEGUN)

    def test_lists_of_five_and_six_pupils(self):
        self.check_lists("five", 12, 300, (5, 6), SELDOM_BEGUN)

    def test_lists_of_seven_and_eight_pupils(self):
        self.check_lists("eight", 10, 300, (7, 8), SELDOM_GONE)

    def test_5000_calls(self):
        self.check_lists("longest", 2, 5000, (3, 4), SELDOM_BEGUN)
