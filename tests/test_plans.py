"""Point 3: cost, shelf, each, once."""

import unittest

from helper import TOP, ask, ask_of, looking


class Cost(unittest.TestCase):
    def test_what_it_costs_and_how_much_more_than_the_least(self):
        told = ask_of([5, 0, 4], [10, 3, 20], 1, ("cost", [5, 4, 0]), ("cost", [9, 0, 0]), ("cost", [5, 0, 4]))
        self.assertEqual(told, [[17, 0], [18, 1], [30, 13]])

    def test_something_left_at_the_end_is_kept_too(self):
        told = ask_of([5, 4], [10, 3], 2, ("cost", [5, 4]), ("cost", [5, 7]), ("cost", [6, 4]))
        self.assertEqual(told, [[13, 0], [19, 6], [17, 4]])

    def test_a_fee_only_where_something_is_ordered(self):
        told = ask_of([0, 0], [10, 3], 0, ("cost", [0, 0]), ("cost", [1, 0]), ("cost", [0, 1]), ("cost", [1, 1]))
        self.assertEqual(told, [[0, 0], [10, 10], [3, 3], [13, 13]])

    def test_too_little_on_any_day(self):
        told = ask_of([5, 0, 4], [1, 1, 1], 1, ("cost", [4, 1, 4]), ("cost", [5, 0, 3]), ("cost", [0, 0, 9]),
                      ("cost", [0, 0, 0]), ("cost", [4, 0, 100000]))
        self.assertEqual(told, [[-12]] * 5)

    def test_one_day(self):
        told = ask_of([4], [9], 5, ("cost", [3]), ("cost", [4]), ("cost", [5]), ("cost", [100000]))
        self.assertEqual(told, [[-12], [9, 0], [14, 5], [9 + 5 * 99996, 5 * 99996]])

    def test_the_greatest_numbers(self):
        told = ask_of([0] * 10, [10000] * 10, 100, ("cost", [100000] * 10))
        self.assertEqual(told, [[100000 + 100 * 100000 * 55] * 2])


class Shelf(unittest.TestCase):
    def test_what_lies_there(self):
        told = ask_of([5, 0, 4], [10, 3, 20], 7, ("shelf", [9, 0, 0]), ("shelf", [5, 4, 0]), ("shelf", [5, 0, 4]))
        self.assertEqual(told, [[8, 4, 4, 0], [4, 0, 4, 0], [0, 0, 0, 0]])

    def test_something_left_at_the_end(self):
        self.assertEqual(ask_of([5, 4], [1, 1], 1, ("shelf", [6, 5])), [[3, 1, 2]])

    def test_too_little_on_any_day(self):
        told = ask_of([5, 0, 4], [1, 1, 1], 1, ("shelf", [4, 1, 4]), ("shelf", [5, 0, 3]), ("shelf", [0, 0, 9]))
        self.assertEqual(told, [[-12]] * 3)

    def test_one_day(self):
        told = ask_of([4], [9], 5, ("shelf", [3]), ("shelf", [4]), ("shelf", [5]), ("shelf", [100000]))
        self.assertEqual(told, [[-12], [0, 0], [1, 1], [99996, 99996]])

    def test_neither_fees_nor_keeping_count(self):
        plan = ("shelf", [9, 0])
        self.assertEqual(ask_of([5, 4], [0, 0], 0, plan), ask_of([5, 4], [10000, 7], 100, plan))


class RefusedPlans(unittest.TestCase):
    def test_as_many_numbers_as_days(self):
        for name, size in (("cost", 2), ("shelf", None)):
            for days in range(1, 11):
                for length in range(15):
                    part = ask(("begin", days, 1), (name, [0] * length), ("keep", 1))
                    right = [0] * (size or days + 1) if length == days else [-22]
                    self.assertEqual(part, [[0], right, [1]])

    def test_a_number_above_the_most(self):
        for name in ("cost", "shelf"):
            for place in range(3):
                for number, refused in ((100000, False), (100001, True), (TOP, True)):
                    plan = [5, 5, 5]
                    plan[place] = number
                    told = ask_of([5, 5, 5], [1, 1, 1], 1, (name, plan))
                    self.assertEqual(told == [[-22]], refused)

    def test_out_of_range_comes_ahead_of_too_little(self):
        for name in ("cost", "shelf"):
            told = ask_of([5, 5], [1, 1], 1, (name, [0, 100001]), (name, [0, TOP]), (name, [0]), (name, []),
                          (name, [0] * 14), (name, [TOP] * 14), (name, [0, 100000]))
            self.assertEqual(told, [[-22]] * 6 + [[-12]])

    def test_refused_ones_change_nothing(self):
        as_it_was = ask_of([5, 4], [2, 3], 1, *looking(2))
        for name in ("cost", "shelf"):
            for plan in ([], [5], [5, 4, 0], [5, 100001], [TOP] * 14, [0, 9], [5, 3]):
                told = ask_of([5, 4], [2, 3], 1, (name, plan), *looking(2))
                self.assertLess(told[0][0], 0)
                self.assertEqual(told[1:], as_it_was)


class EachAndOnce(unittest.TestCase):
    def both(self, needs, fees, keeping):
        """What each and once answer; they are what cost tells of these plans, and change nothing."""
        days = len(needs)
        told = ask_of(needs, fees, keeping, ("each",), ("once",), ("cost", needs),
                      ("cost", [sum(needs)] + [0] * (days - 1)), *looking(days))
        self.assertEqual((told[0][0], told[1][0]), (told[2][0], told[3][0]))
        self.assertEqual(told[4:], ask_of(needs, fees, keeping, *looking(days)))
        self.assertEqual((len(told[0]), len(told[1])), (1, 1))
        return told[0][0], told[1][0]

    def test_ordinary(self):
        self.assertEqual(self.both([5, 2, 4], [10, 3, 20], 1), (33, 20))
        self.assertEqual(self.both([5, 2, 4], [10, 3, 20], 3), (33, 40))

    def test_nothing_is_needed(self):
        for days in (1, 2, 10):
            self.assertEqual(self.both([0] * days, [10000] * days, 100), (0, 0))

    def test_days_that_need_nothing_cost_no_fee(self):
        self.assertEqual(self.both([0, 2, 4], [10, 3, 20], 1), (23, 20))
        self.assertEqual(self.both([5, 0, 4], [10, 3, 20], 1), (30, 18))
        self.assertEqual(self.both([5, 2, 0], [10, 3, 20], 1), (13, 12))
        self.assertEqual(self.both([0, 0, 4], [10, 3, 20], 1), (20, 18))

    def test_once_is_on_day_0_though_it_needs_nothing(self):
        self.assertEqual(self.both([0, 1], [7, 1], 0), (1, 7))
        self.assertEqual(self.both([0, 1], [0, 1], 0), (1, 0))

    def test_one_day(self):
        self.assertEqual(self.both([4], [9], 5), (9, 9))
        self.assertEqual(self.both([0], [9], 5), (0, 0))
        self.assertEqual(self.both([1], [0], 5), (0, 0))

    def test_no_fees_or_keeping_for_nothing(self):
        self.assertEqual(self.both([3, 4, 2], [0, 0, 0], 2), (0, 16))
        self.assertEqual(self.both([3, 4, 2], [5, 6, 7], 0), (18, 5))
        self.assertEqual(self.both([3, 4, 2], [0, 0, 0], 0), (0, 0))

    def test_the_greatest_numbers(self):
        # 1,000 pieces each over 1 to 9 nights, for 100 each.
        self.assertEqual(self.both([1000] * 10, [10000] * 10, 100), (100000, 10000 + 100 * 1000 * 45))


if __name__ == "__main__":
    unittest.main()
