"""All six calls, on every table and mixed in one list, against the slow search."""

import random
import time
import unittest

from helper import BEGINS, LARGEST, TIMES, answers, asked, glass, glasses, goes, line, soonest, tells
from slow import FEW_PLANS, EveryEnd, EveryPlan, SlowTable, all_tables, by_ends, count_of_plans

A_FEW_SECONDS = 5


class SlowSearchTest(unittest.TestCase):
    def test_by_ends_is_as_by_plans(self):
        tables = [runs for runs in all_tables() if count_of_plans(runs) <= FEW_PLANS]
        self.assertGreater(len(tables), 100)
        for runs in tables:
            by_plans, by_ends = EveryPlan(runs), EveryEnd(runs)
            self.assertEqual(by_plans.times(), by_ends.times(), runs)
            for minutes in range(18):
                self.assertEqual(by_plans.tells(minutes), by_ends.tells(minutes), (runs, minutes))
                self.assertEqual(by_plans.soonest(minutes), by_ends.soonest(minutes), (runs, minutes))


class EveryTableTest(unittest.TestCase):
    def assert_as_searched(self, runs, calls):
        found = asked(*glasses(*runs), *calls)[len(runs):]
        search = by_ends(runs)
        for call, given in zip(calls, found):
            wanted = search.times() if call == TIMES else {3: search.tells, 5: search.soonest}[call[0]](call[2])
            self.assertEqual(given, wanted, (runs, call))

    def test_tells_and_times(self):
        calls = [tells(minutes) for minutes in range(17)] + [TIMES]
        for runs in all_tables():
            for start in range(0, len(calls), 6):
                self.assert_as_searched(runs, calls[start:start + 6])

    def test_soonest_with_up_to_two_glasses(self):
        for runs in all_tables(2):
            for minutes in range(17):
                self.assert_as_searched(runs, [soonest(minutes), soonest(16 - minutes)])

    def test_soonest_with_three_glasses(self):
        for place, runs in enumerate(runs for runs in all_tables() if len(runs) == 3):
            # Which times are asked differs from table to table; tables of the same glasses ask for different ones.
            self.assert_as_searched(runs, [soonest(place % 17), soonest((place + 8) % 17)])


class MixedTest(unittest.TestCase):
    def some_calls(self, chance):
        """A list of up to 40 calls, of which 6 are tells and times and 2 soonest at the most."""
        searches, soonests = 6, 2
        calls = []
        for place in range(chance.randint(1, 40)):
            call = self.some_call(chance)
            if call[0] in (3, 4):
                searches -= 1
            if call[0] == 5:
                soonests -= 1
            allowed = (call[0] not in (3, 4) or searches >= 0) and (call[0] != 5 or soonests >= 0)
            calls.append(call if allowed else glass(chance.randint(1, 9)))
        return calls

    def some_call(self, chance):
        minutes = chance.choice([0, 16, 17, LARGEST] + list(range(1, 16)) * 2)
        plan = [chance.choice([0, 1, 1, 2, 3, 3, 4, 5, 6, 7, 8]) for step in range(chance.choice([0, 1, 2, 3, 4, 20]))]
        return chance.choice([BEGINS, glass(chance.randint(0, 10)), glass(chance.randint(1, 9)),
                              glass(chance.randint(1, 9)), goes(*plan), goes(*plan), tells(minutes), TIMES,
                              soonest(minutes)])

    def test_as_searched(self):
        chance = random.Random(16)
        for count in range(400):
            calls = self.some_calls(chance)
            slow = SlowTable()
            self.assertEqual(asked(*calls), [slow.answer(call) for call in calls], calls)

    def test_forty_calls(self):
        chance = random.Random(40)
        searches = [tells(9), tells(14), TIMES, tells(11), TIMES, tells(1), soonest(5), soonest(13)]
        for count in range(50):
            calls = searches + glasses(*[chance.randint(1, 9) for place in range(10)]) + [goes(1)] * 19 + [BEGINS] * 3
            chance.shuffle(calls)
            self.assertEqual(len(calls), 40)
            slow = SlowTable()
            self.assertEqual(asked(*calls), [slow.answer(call) for call in calls], calls)

    def test_no_search_changes_the_glasses(self):
        for search in (tells(0), tells(9), tells(6), tells(17), TIMES, soonest(0), soonest(5), soonest(17)):
            with self.subTest(search=search):
                self.assertEqual(asked(*glasses(4, 7), goes(3, 1), search, goes(3, 1), glass(2), search, goes(7))[2:],
                                 asked(*glasses(4, 7), goes(3, 1))[2:] + asked(*glasses(4, 7), search)[2:]
                                 + asked(*glasses(4, 7), goes(3, 1))[2:] + [[2]]
                                 + asked(*glasses(4, 7, 2), search)[3:] + asked(*glasses(4, 7, 2), goes(7))[3:])

    def test_same_list_twice(self):
        chance = random.Random(2)
        for count in range(30):
            calls = line(self.some_calls(chance))
            handed_in = list(calls)
            first = answers(handed_in)
            self.assertEqual(handed_in, calls)
            self.assertEqual(answers(handed_in), first)
            self.assertEqual(handed_in, calls)


class TimeTakenTest(unittest.TestCase):
    def test_most_searches_over_three_glasses(self):
        for runs in ((1, 1, 1), (1, 2, 3), (2, 3, 3), (4, 7, 9), (7, 8, 9), (9, 8, 7), (9, 9, 9)):
            for search in ([tells(16)] * 6, [TIMES] * 6, [tells(15), tells(1), TIMES] * 2):
                with self.subTest(runs=runs, search=search):
                    calls = line(glasses(*runs) + search + [soonest(1), soonest(15)])
                    begun = time.monotonic()
                    answers(calls)
                    self.assertLess(time.monotonic() - begun, A_FEW_SECONDS)


if __name__ == "__main__":
    unittest.main()
