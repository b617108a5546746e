"""What holds, a and b: held against plans tried one by one, and against the words taken literally."""

import unittest
from itertools import product
from random import Random

from helper import ask_of, cost_of, last_as_told, least_of_all_plans, least_of_order_days, lies_behind, plan_as_told


def all_of(needs, fees, keeping):
    """The plan answer, and lasts, leasts and settled as plain lists."""
    days = len(needs)
    calls = [("plan",), ("lasts",)] + [("least", t) for t in range(days + 1)]
    calls += [("settled", day) for day in range(days)]
    told = ask_of(needs, fees, keeping, *calls)
    return told[0], told[1], [part[0] for part in told[2:days + 3]], [part[0] for part in told[days + 3:]]


def drawn(seed, count, days, most_need, most_fee, most_keeping):
    """Cases by a fixed seed, so that each run tries the same; many days need nothing."""
    source = Random(seed)
    for turn in range(count):
        size = source.randint(1, days)
        needs = [source.choice([0, source.randint(0, most_need), source.randint(1, most_need)]) for day in range(size)]
        yield needs, [source.randint(0, most_fee) for day in range(size)], source.randint(0, most_keeping)


def small_cases():
    """All cases of one to three days with small numbers."""
    for days in (1, 2, 3):
        for needs in product((0, 1, 2), repeat=days):
            for fees in product((0, 1, 3), repeat=days):
                for keeping in (0, 1, 2):
                    yield list(needs), list(fees), keeping


class WhatHolds(unittest.TestCase):
    def hold(self, needs, fees, keeping, least):
        """That the plan told costs just the least, orders at an empty shelf alone, and that lasts never fall."""
        plan, lasts, leasts, settled = all_of(needs, fees, keeping)
        case = (needs, fees, keeping)
        self.assertEqual(plan[0], least, case)
        self.assertEqual(leasts[len(needs)], least, case)
        self.assertEqual(cost_of(needs, fees, keeping, plan[1:]), least, case)
        lies = [0] + lies_behind(needs, plan[1:])
        self.assertTrue(all(lies[day] == 0 for day, n in enumerate(plan[1:]) if n), case)
        self.assertEqual(lasts[1:], sorted(lasts[1:]), case)
        self.assertEqual(settled, [int(last == day + 1) for day, last in enumerate(lasts[1:])], case)

    def hold_to_the_words(self, needs, fees, keeping):
        """That the last orders and the plan told are those that the words give."""
        plan, lasts, leasts, settled = all_of(needs, fees, keeping)
        days = len(needs)
        case = (needs, fees, keeping)
        told = [last_as_told(needs, fees, keeping, t) for t in range(1, days + 1)]
        self.assertEqual(lasts, [days] + told, case)
        self.assertEqual(plan[1:], plan_as_told(needs, fees, keeping, days), case)
        self.assertEqual(leasts, [least_of_order_days(needs[:t], fees[:t], keeping) for t in range(days + 1)], case)

    def test_all_small_cases_by_all_plans(self):
        for needs, fees, keeping in small_cases():
            self.hold(needs, fees, keeping, least_of_all_plans(needs, fees, keeping))

    def test_all_small_cases_by_the_words(self):
        for needs, fees, keeping in small_cases():
            self.hold_to_the_words(needs, fees, keeping)

    def test_four_days_by_all_plans(self):
        for needs, fees, keeping in drawn(1, 60, 4, 3, 6, 3):
            self.hold(needs, fees, keeping, least_of_all_plans(needs, fees, keeping))

    def test_more_days_by_all_choices_of_order_days(self):
        for needs, fees, keeping in drawn(2, 40, 10, 12, 40, 5):
            self.hold(needs, fees, keeping, least_of_order_days(needs, fees, keeping))

    def test_great_numbers_by_all_choices_of_order_days(self):
        for needs, fees, keeping in drawn(3, 20, 10, 1000, 10000, 100):
            self.hold(needs, fees, keeping, least_of_order_days(needs, fees, keeping))

    def test_more_days_by_the_words(self):
        for needs, fees, keeping in drawn(4, 60, 7, 4, 8, 2):
            self.hold_to_the_words(needs, fees, keeping)

    def test_no_plan_that_is_asked_for_costs_less(self):
        source = Random(5)
        for needs, fees, keeping in drawn(6, 300, 6, 5, 20, 4):
            plan = [source.randint(0, 12) for day in needs]
            cost, shelf, told = ask_of(needs, fees, keeping, ("cost", plan), ("shelf", plan), ("plan",))
            lies = lies_behind(needs, plan)
            if lies is None:
                self.assertEqual((cost, shelf), ([-12], [-12]))
            else:
                spent = cost_of(needs, fees, keeping, plan)
                self.assertEqual((cost, shelf), ([spent, spent - told[0]], [sum(lies)] + lies))
                self.assertGreaterEqual(cost[1], 0)


if __name__ == "__main__":
    unittest.main()
