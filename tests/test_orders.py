"""Point 2: least, plan, last, lasts, settled, sure."""

import unittest

from helper import TOP, ask, ask_of, looking


def seen(needs, fees, keeping):
    """The plan answer, the lasts without their count, and which days are settled."""
    days = len(needs)
    told = ask_of(needs, fees, keeping, ("plan",), ("lasts",), *[("settled", day) for day in range(days)])
    return told[0], told[1][1:], [part[0] for part in told[2:]]


class Least(unittest.TestCase):
    def test_for_the_first_days(self):
        told = ask_of([5, 0, 4], [10, 3, 20], 1, *[("least", t) for t in range(4)])
        self.assertEqual(told, [[0], [10], [10], [17]])

    def test_all_days_and_one_above(self):
        for days in (1, 2, 9, 10):
            told = ask(("begin", days, 0), ("least", 0), ("least", days), ("least", days + 1), ("least", TOP))
            self.assertEqual(told, [[0], [0], [0], [-22], [-22]])

    def test_no_day_ahead_knows_of_later_ones(self):
        told = ask_of([1, 1, 1], [5, 100, 100], 50, ("least", 1), ("least", 2), ("least", 3))
        self.assertEqual(told, [[5], [55], [155]])

    def test_the_greatest_numbers(self):
        # Keeping is dearer than any fee: each day orders its own.
        told = ask_of([1000] * 10, [10000] * 10, 100, ("plan",), ("lasts",))
        self.assertEqual(told, [[100000] + [1000] * 10, [10] + list(range(1, 11))])

    def test_the_dearest_single_order(self):
        told = ask_of([1] * 10, [0] + [10000] * 9, 100, ("plan",))
        self.assertEqual(told, [[4500, 10] + [0] * 9])


class PlanTold(unittest.TestCase):
    def test_ordinary(self):
        plan, lasts, settled = seen([5, 0, 4], [10, 3, 20], 1)
        self.assertEqual(plan, [17, 5, 4, 0])
        self.assertEqual(lasts, [1, 1, 2])
        self.assertEqual(settled, [1, 0, 0])

    def test_several_orders(self):
        plan, lasts, settled = seen([20, 50, 10, 50, 50], [100, 100, 100, 100, 100], 1)
        self.assertEqual(plan, [320, 80, 0, 0, 100, 0])
        self.assertEqual(lasts, [1, 1, 1, 4, 4])
        self.assertEqual(settled, [1, 0, 0, 1, 0])

    def test_ahead_of_the_last_order_the_plan_told_for_those_days(self):
        # The days ahead are planned by themselves: what's told for them hangs on no later day.
        told = ask_of([2, 2, 9], [3, 2, 1], 1, ("plan",), ("begin", 2, 1), ("need", 0, 2), ("need", 1, 2),
                      ("fee", 0, 3), ("fee", 1, 2), ("plan",))
        self.assertEqual(told[0], [6, 2, 2, 9])
        self.assertEqual(told[-1], [5, 2, 2])

    def test_nothing_is_needed(self):
        self.assertEqual(seen([0, 0, 0], [4, 0, 9], 2), ([0, 0, 0, 0], [0, 0, 0], [0, 0, 0]))

    def test_days_that_need_nothing_first(self):
        self.assertEqual(seen([0, 0, 6], [9, 9, 9], 1), ([9, 0, 0, 6], [0, 0, 3], [0, 0, 1]))

    def test_days_that_need_nothing_last(self):
        self.assertEqual(seen([6, 0, 0], [9, 0, 0], 1), ([9, 6, 0, 0], [1, 1, 1], [1, 0, 0]))

    def test_days_that_need_nothing_between(self):
        # Each piece lies over two nights.
        self.assertEqual(seen([6, 0, 6], [9, 9, 9], 1), ([18, 6, 0, 6], [1, 1, 3], [1, 0, 1]))
        self.assertEqual(seen([6, 0, 4], [9, 9, 9], 1), ([17, 10, 0, 0], [1, 1, 1], [1, 0, 0]))

    def test_no_fees(self):
        self.assertEqual(seen([3, 0, 2], [0, 0, 0], 1), ([0, 3, 0, 2], [1, 1, 3], [1, 0, 1]))

    def test_keeping_for_nothing(self):
        self.assertEqual(seen([3, 4, 2], [5, 0, 1], 0), ([5, 3, 6, 0], [1, 2, 2], [1, 1, 0]))
        self.assertEqual(seen([0, 4, 2], [5, 1, 1], 0), ([1, 0, 6, 0], [0, 2, 2], [0, 1, 0]))
        self.assertEqual(seen([3, 4, 2], [1, 5, 5], 0), ([1, 9, 0, 0], [1, 1, 1], [1, 0, 0]))

    def test_no_fees_and_keeping_for_nothing(self):
        # All plans are as cheap: each day orders its own.
        self.assertEqual(seen([3, 4, 2], [0, 0, 0], 0), ([0, 3, 4, 2], [1, 2, 3], [1, 1, 1]))

    def test_a_fee_cheaper_on_a_day_that_needs_nothing(self):
        self.assertEqual(seen([0, 5], [1, 9], 1), ([6, 5, 0], [0, 1], [0, 0]))
        self.assertEqual(seen([2, 0, 5], [4, 1, 9], 1), ([10, 2, 5, 0], [1, 1, 2], [1, 0, 0]))

    def test_of_two_as_cheap_the_later_order_is_told(self):
        # Kept over the night it costs 5, ordered anew 5.
        self.assertEqual(seen([3, 5], [7, 5], 1), ([12, 3, 5], [1, 2], [1, 1]))
        self.assertEqual(seen([3, 5], [7, 6], 1), ([12, 8, 0], [1, 1], [1, 0]))
        self.assertEqual(seen([3, 5], [7, 4], 1), ([11, 3, 5], [1, 2], [1, 1]))

    def test_of_two_as_cheap_a_later_day_that_needs_nothing(self):
        self.assertEqual(seen([0, 0, 4], [1, 5, 9], 1), ([9, 0, 0, 4], [0, 0, 3], [0, 0, 1]))
        self.assertEqual(seen([0, 0, 4], [1, 5, 10], 1), ([9, 0, 4, 0], [0, 0, 2], [0, 0, 0]))

    def test_one_day(self):
        self.assertEqual(seen([0], [9], 5), ([0, 0], [0], [0]))
        self.assertEqual(seen([4], [9], 5), ([9, 4], [1], [1]))
        self.assertEqual(seen([1], [0], 0), ([0, 1], [1], [1]))


class Last(unittest.TestCase):
    def test_it_is_what_lasts_tells(self):
        told = ask_of([5, 0, 4, 4], [10, 3, 20, 4], 1, ("lasts",), *[("last", t) for t in range(5)])
        self.assertEqual(told[0], [4, 1, 1, 2, 4])
        self.assertEqual(told[1:], [[0], [1], [1], [2], [4]])

    def test_all_days_and_one_above(self):
        for days in (1, 2, 9, 10):
            told = ask(("begin", days, 0), ("need", days - 1, 1), ("last", 0), ("last", days - 1), ("last", days),
                       ("last", days + 1), ("last", TOP))
            self.assertEqual(told[2:], [[0], [0], [days], [-22], [-22]])


class Settled(unittest.TestCase):
    def test_no_such_day(self):
        for days in (1, 2, 10):
            told = ask(("begin", days, 0), ("settled", days - 1), ("settled", days), ("settled", TOP))
            self.assertEqual(told, [[0], [0], [-2], [-2]])

    def test_the_last_day_settled(self):
        self.assertEqual(ask_of([1, 1], [9, 1], 2, ("settled", 0), ("settled", 1)), [[1], [1]])

    def test_the_first_day_is_settled_if_it_needs_something(self):
        self.assertEqual(ask_of([1, 0], [10000, 0], 0, ("settled", 0)), [[1]])
        self.assertEqual(ask_of([0, 1], [0, 10000], 0, ("settled", 0), ("settled", 1)), [[0], [0]])

    def test_it_hangs_on_no_later_day(self):
        ahead = ask_of([2, 2, 0, 0], [3, 2, 1, 1], 1, ("settled", 0), ("settled", 1))
        behind = ask_of([2, 2, 900, 30], [3, 2, 1, 70], 1, ("settled", 0), ("settled", 1))
        self.assertEqual(ahead, behind)
        self.assertEqual(ahead, [[1], [1]])


class Sure(unittest.TestCase):
    def sure(self, needs, fees, keeping):
        """What sure answers; behind it all is as it was."""
        told = ask_of(needs, fees, keeping, ("sure",), ("sure",), *looking(len(needs)))
        self.assertEqual(told[0], told[1])
        self.assertEqual(told[2:], ask_of(needs, fees, keeping, *looking(len(needs))))
        return told[0]

    def test_nothing_is_needed(self):
        for days in (1, 2, 10):
            self.assertEqual(self.sure([0] * days, [0] * days, 0), [-6])
            self.assertEqual(self.sure([0] * days, [10000] * days, 100), [-6])

    def test_something_is_ordered_and_no_day_settled(self):
        self.assertEqual(self.sure([0, 5], [1, 9], 1), [-6])
        self.assertEqual(self.sure([0, 0, 4], [1, 5, 10], 1), [-6])

    def test_day_0_the_only_one(self):
        self.assertEqual(self.sure([5, 0, 4], [10, 3, 20], 1), [0])
        self.assertEqual(self.sure([1, 0], [10000, 0], 0), [0])

    def test_one_day(self):
        self.assertEqual(self.sure([4], [9], 5), [0])
        self.assertEqual(self.sure([1000], [10000], 100), [0])

    def test_one_that_is_not_day_0(self):
        self.assertEqual(self.sure([0, 6, 0], [9, 9, 9], 1), [1, 0])
        self.assertEqual(self.sure([0, 0, 4, 1], [1, 5, 9, 9], 1), [2, 0, 0])

    def test_several(self):
        self.assertEqual(self.sure([20, 50, 10, 50, 50], [100] * 5, 1), [3, 80, 0, 0])
        self.assertEqual(self.sure([3, 4, 2], [5, 0, 1], 0), [1, 3])

    def test_the_last_day(self):
        self.assertEqual(self.sure([1, 1], [9, 1], 2), [1, 1])
        self.assertEqual(self.sure([0, 0, 6], [9, 9, 9], 1), [2, 0, 0])
        self.assertEqual(self.sure([1000] * 10, [10000] * 10, 100), [9] + [1000] * 9)

    def test_of_two_as_cheap_the_later_order_settles_its_day(self):
        self.assertEqual(self.sure([3, 5], [7, 5], 1), [1, 3])
        self.assertEqual(self.sure([3, 5], [7, 6], 1), [0])

    def test_ahead_of_it_an_order_on_a_day_that_needs_nothing(self):
        self.assertEqual(self.sure([2, 0, 5, 9], [4, 1, 9, 1], 1), [3, 2, 5, 0])

    def test_an_order_behind_it_that_settles_nothing(self):
        # The last order is on day 2, which needs nothing: what is told ends ahead of day 1 all the same.
        needs, fees = [4, 4, 0, 4], [5, 2, 1, 9]
        self.assertEqual(ask_of(needs, fees, 1, ("lasts",), ("plan",)), [[4, 1, 2, 2, 3], [12, 4, 4, 4, 0]])
        self.assertEqual(self.sure(needs, fees, 1), [1, 4])

    def test_it_follows_what_is_changed(self):
        told = ask(("begin", 2, 1), ("sure",), ("need", 1, 5), ("sure",), ("need", 0, 1), ("sure",),
                   ("fee", 1, 6), ("sure",), ("keep", 2), ("sure",))
        self.assertEqual(told[1::2], [[-6], [1, 0], [1, 1], [0], [1, 1]])


class NothingIsChanged(unittest.TestCase):
    def test_asking_changes_nothing(self):
        asked = [("least", 3), ("least", 4), ("plan",), ("last", 3), ("last", 4), ("lasts",), ("settled", 0),
                 ("settled", 3), ("cost", [9, 0, 0]), ("shelf", [9, 0, 0]), ("cost", [0, 0, 0]), ("shelf", [9]),
                 ("sure",), ("each",), ("once",), ("would", 0, 7), ("dear", 0, 7), ("together", [1, 2, 3]),
                 ("span", 0, 2), ("rest", 1), ("sums",), ("state",)]
        told = ask_of([5, 0, 4], [10, 3, 20], 1, *asked, *asked, ("need", 0, 1), ("need", 1, 1), ("need", 2, 1),
                      ("fee", 0, 1), ("fee", 1, 1), ("fee", 2, 1), ("keep", 0))
        count = len(asked)
        self.assertEqual(told[:count], told[count:2 * count])
        self.assertEqual(told[2 * count:], [[5], [0], [4], [10], [3], [20], [1]])


if __name__ == "__main__":
    unittest.main()
