"""What holds, a to e: held against plans tried one by one, and against the words taken literally."""

import unittest
from itertools import product
from random import Random

from helper import ask_of, cost_of, last_as_told, least_of_all_plans, least_of_order_days, lies_behind, plan_as_told


def all_of(needs, fees, keeping):
    """The plan answer, and lasts, leasts and settled as plain lists."""
    days = len(needs)
    calls = [("plan",), ("lasts",)] + [("least", t) for t in range(days + 1)]
    calls += [("settled", day) for day in range(days)]
    told = ask_of(needs, fees, keeping, *calls)
    return told[0], told[1], [part[0] for part in told[2:days + 3]], [part[0] for part in told[days + 3:]]


def drawn(seed, count, days, most_need, most_fee, most_keeping):
    """Cases by a fixed seed, so that each run tries the same; many days need nothing."""
    source = Random(seed)
    for turn in range(count):
        size = source.randint(1, days)
        needs = [source.choice([0, source.randint(0, most_need), source.randint(1, most_need)]) for day in range(size)]
        yield needs, [source.randint(0, most_fee) for day in range(size)], source.randint(0, most_keeping)


def small_cases():
    """All cases of one to three days with small numbers."""
    for days in (1, 2, 3):
        for needs in product((0, 1, 2), repeat=days):
            for fees in product((0, 1, 3), repeat=days):
                for keeping in (0, 1, 2):
                    yield list(needs), list(fees), keeping


class WhatHolds(unittest.TestCase):
    def hold(self, needs, fees, keeping, least):
        """That the plan told costs just the least, orders at an empty shelf alone, and that lasts never fall."""
        plan, lasts, leasts, settled = all_of(needs, fees, keeping)
        case = (needs, fees, keeping)
        self.assertEqual(plan[0], least, case)
        self.assertEqual(leasts[len(needs)], least, case)
        self.assertEqual(cost_of(needs, fees, keeping, plan[1:]), least, case)
        lies = [0] + lies_behind(needs, plan[1:])
        self.assertTrue(all(lies[day] == 0 for day, n in enumerate(plan[1:]) if n), case)
        self.assertEqual(lasts[1:], sorted(lasts[1:]), case)
        self.assertEqual(settled, [int(last == day + 1) for day, last in enumerate(lasts[1:])], case)

    def hold_to_the_words(self, needs, fees, keeping):
        """That the last orders and the plan told are those that the words give."""
        plan, lasts, leasts, settled = all_of(needs, fees, keeping)
        days = len(needs)
        case = (needs, fees, keeping)
        told = [last_as_told(needs, fees, keeping, t) for t in range(1, days + 1)]
        self.assertEqual(lasts, [days] + told, case)
        self.assertEqual(plan[1:], plan_as_told(needs, fees, keeping, days), case)
        self.assertEqual(leasts, [least_of_order_days(needs[:t], fees[:t], keeping) for t in range(days + 1)], case)

    def test_all_small_cases_by_all_plans(self):
        for needs, fees, keeping in small_cases():
            self.hold(needs, fees, keeping, least_of_all_plans(needs, fees, keeping))

    def test_all_small_cases_by_the_words(self):
        for needs, fees, keeping in small_cases():
            self.hold_to_the_words(needs, fees, keeping)

    def test_four_days_by_all_plans(self):
        for needs, fees, keeping in drawn(1, 60, 4, 3, 6, 3):
            self.hold(needs, fees, keeping, least_of_all_plans(needs, fees, keeping))

    def test_more_days_by_all_choices_of_order_days(self):
        for needs, fees, keeping in drawn(2, 40, 10, 12, 40, 5):
            self.hold(needs, fees, keeping, least_of_order_days(needs, fees, keeping))

    def test_great_numbers_by_all_choices_of_order_days(self):
        for needs, fees, keeping in drawn(3, 20, 10, 1000, 10000, 100):
            self.hold(needs, fees, keeping, least_of_order_days(needs, fees, keeping))

    def test_more_days_by_the_words(self):
        for needs, fees, keeping in drawn(4, 60, 7, 4, 8, 2):
            self.hold_to_the_words(needs, fees, keeping)

    def test_no_plan_that_is_asked_for_costs_less(self):
        source = Random(5)
        for needs, fees, keeping in drawn(6, 300, 6, 5, 20, 4):
            plan = [source.randint(0, 12) for day in needs]
            cost, shelf, told = ask_of(needs, fees, keeping, ("cost", plan), ("shelf", plan), ("plan",))
            lies = lies_behind(needs, plan)
            if lies is None:
                self.assertEqual((cost, shelf), ([-12], [-12]))
            else:
                spent = cost_of(needs, fees, keeping, plan)
                self.assertEqual((cost, shelf), ([spent, spent - told[0]], [sum(lies)] + lies))
                self.assertGreaterEqual(cost[1], 0)

    def test_what_would_be_by_all_plans(self):
        source = Random(7)
        for needs, fees, keeping in drawn(8, 60, 3, 3, 6, 3):
            day, n = source.randrange(len(needs)), source.randint(0, 4)
            changed = needs[:day] + [n] + needs[day + 1:]
            self.hold_of_one("would", (needs, fees), (changed, fees), keeping, day, n)
            changed = fees[:day] + [n] + fees[day + 1:]
            self.hold_of_one("dear", (needs, fees), (needs, changed), keeping, day, n)

    def hold_of_one(self, name, ahead, then, keeping, day, n):
        """That would or dear tells the least of what would be then, and a plan that costs just that."""
        needs, fees = then
        told = ask_of(*ahead, keeping, (name, day, n))[0]
        case = (name, ahead, keeping, day, n)
        self.assertEqual(told[0], least_of_all_plans(needs, fees, keeping), case)
        self.assertEqual(told[0], cost_of(needs, fees, keeping, told[1:]), case)
        self.assertEqual(told[1:], plan_as_told(needs, fees, keeping, len(needs)), case)
        lies = [0] + lies_behind(needs, told[1:])
        self.assertTrue(all(lies[place] == 0 for place, n in enumerate(told[1:]) if n), case)


class OnceSettled(unittest.TestCase):
    def test_sure_tells_the_last_settled_day_and_the_plan_ahead_of_it(self):
        for needs, fees, keeping in drawn(11, 150, 6, 4, 8, 2):
            days = len(needs)
            lasts = [last_as_told(needs, fees, keeping, t + 1) for t in range(days)]
            found = [day for day in range(days) if lasts[day] == day + 1]
            right = [found[-1]] + plan_as_told(needs, fees, keeping, found[-1]) if found else [-6]
            self.assertEqual(ask_of(needs, fees, keeping, ("sure",)), [right], (needs, fees, keeping))

    def test_what_is_before_stays_best_whatever_is_needed_later(self):
        source = Random(12)
        held = 0
        for needs, fees, keeping in drawn(13, 150, 10, 12, 30, 4):
            sure = ask_of(needs, fees, keeping, ("sure",))[0]
            if sure != [-6]:
                day = sure[0]
                later = [source.choice([0, source.randint(0, 30)]) for place in needs[day + 1:]]
                self.hold_once_settled(needs[:day + 1] + later, fees, keeping, sure)
                held += 1
        self.assertGreater(held, 100)

    def hold_once_settled(self, needs, fees, keeping, sure):
        """That for more days it's the least before and the least from then on, by the plan that was told."""
        day, days = sure[0], len(needs)
        case = (needs, fees, keeping, day)
        told = ask_of(needs, fees, keeping, ("settled", day), ("plan",), ("rest", day),
                      *[("least", t) for t in range(days + 1)])
        leasts = [part[0] for part in told[3:]]
        self.assertEqual(told[0], [1], case)
        self.assertEqual(told[1][1:day + 1], sure[1:], case)
        self.assertEqual(sum(told[2]), leasts[days], case)
        for t in range(day + 1, days + 1):
            from_then_on = least_of_order_days(needs[day:t], fees[day:t], keeping)
            self.assertEqual(leasts[t], leasts[day] + from_then_on, case)


class TogetherAndApart(unittest.TestCase):
    def test_together_is_no_dearer_than_apart(self):
        source = Random(14)
        saved = 0
        for needs, fees, keeping in drawn(15, 150, 7, 9, 30, 4):
            other = [source.choice([0, source.randint(0, 9)]) for day in needs]
            both = [n + m for n, m in zip(needs, other)]
            apart = least_of_order_days(needs, fees, keeping) + least_of_order_days(other, fees, keeping)
            told = ask_of(needs, fees, keeping, ("together", other))[0]
            self.assertEqual(told, [least_of_order_days(both, fees, keeping), apart], (needs, fees, keeping, other))
            self.assertLessEqual(told[0], told[1])
            saved += told[0] < told[1]
        self.assertGreater(saved, 50)

    def test_more_needed_dearer_fees_dearer_keeping_never_cheaper(self):
        source = Random(16)
        for needs, fees, keeping in drawn(17, 200, 10, 12, 40, 5):
            day = source.randrange(len(needs))
            told = ask_of(needs, fees, keeping, ("plan",), ("would", day, needs[day] + source.randint(0, 20)),
                          ("dear", day, fees[day] + source.randint(0, 40)), ("keep", keeping + source.randint(0, 5)),
                          ("plan",))
            for part in (told[1], told[2], told[4]):
                self.assertGreaterEqual(part[0], told[0][0], (needs, fees, keeping, day))

    def test_one_part_behind_the_other_is_never_cheaper_than_all_at_once(self):
        dearer = 0
        for needs, fees, keeping in drawn(18, 100, 7, 9, 30, 4):
            days = len(needs)
            told = ask_of(needs, fees, keeping, ("plan",), *[("rest", t) for t in range(days + 1)])
            for t, part in enumerate(told[1:]):
                behind = least_of_order_days(needs[t:], fees[t:], keeping)
                self.assertEqual(part, [behind, least_of_order_days(needs[:t], fees[:t], keeping)])
                self.assertGreaterEqual(sum(part), told[0][0], (needs, fees, keeping, t))
                dearer += sum(part) > told[0][0]
            self.assertEqual((sum(told[1]), sum(told[-1])), (told[0][0], told[0][0]))
        self.assertGreater(dearer, 50)

    def test_none_is_cheaper_than_the_least(self):
        for needs, fees, keeping in drawn(19, 200, 10, 12, 40, 5):
            plan, each, once = ask_of(needs, fees, keeping, ("plan",), ("each",), ("once",))
            self.assertLessEqual(plan[0], min(each[0], once[0]), (needs, fees, keeping))


if __name__ == "__main__":
    unittest.main()
