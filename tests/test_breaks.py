"""Where it usually breaks: each of the named settings, over all calls that tell something of it."""

import unittest

from helper import ask_of


class WhereItUsuallyBreaks(unittest.TestCase):
    def hold(self, needs, fees, keeping, expected):
        """That each call answers as written here, in whatever order they are made."""
        calls, right = [call for call, told in expected], [told for call, told in expected]
        self.assertEqual(ask_of(needs, fees, keeping, *calls), right)
        self.assertEqual(ask_of(needs, fees, keeping, *calls[::-1]), right[::-1])

    def test_days_that_need_nothing_first(self):
        self.hold([0, 0, 6], [9, 9, 9], 1, [
            (("plan",), [9, 0, 0, 6]), (("lasts",), [3, 0, 0, 3]), (("sure",), [2, 0, 0]),
            (("each",), [9]), (("once",), [21]), (("cost", [0, 0, 6]), [9, 0]), (("shelf", [0, 6, 0]), [6, 0, 6, 0]),
            (("would", 0, 1), [18, 1, 0, 6]), (("dear", 2, 4), [4, 0, 0, 6]), (("dear", 1, 0), [6, 0, 6, 0]),
            (("together", [1, 0, 0]), [18, 18]), (("span", 0, 2), [0]), (("span", 0, 3), [6]),
            (("rest", 1), [9, 0]), (("rest", 2), [9, 0]), (("sums",), [0, 6, 27, 1]),
            (("state",), [3, 0, 0, 6, 9, 9, 9]),
        ])

    def test_days_that_need_nothing_last(self):
        self.hold([6, 0, 0], [9, 0, 0], 1, [
            (("plan",), [9, 6, 0, 0]), (("lasts",), [3, 1, 1, 1]), (("sure",), [0]),
            (("each",), [9]), (("once",), [9]), (("cost", [6, 0, 1]), [10, 1]), (("shelf", [6, 1, 0]), [2, 0, 1, 1]),
            (("would", 2, 1), [9, 6, 0, 1]), (("dear", 0, 0), [0, 6, 0, 0]), (("dear", 2, 10000), [9, 6, 0, 0]),
            (("together", [0, 0, 1]), [9, 9]), (("span", 1, 3), [0]), (("rest", 1), [0, 9]), (("rest", 3), [0, 9]),
        ])

    def test_days_that_need_nothing_between(self):
        self.hold([6, 0, 4], [9, 9, 9], 1, [
            (("plan",), [17, 10, 0, 0]), (("lasts",), [3, 1, 1, 1]), (("sure",), [0]), (("each",), [18]),
            (("once",), [17]), (("cost", [6, 0, 4]), [18, 1]), (("shelf", [10, 0, 0]), [8, 4, 4, 0]),
            (("would", 2, 5), [18, 6, 0, 5]), (("would", 1, 1), [18, 11, 0, 0]), (("dear", 1, 3), [16, 6, 4, 0]),
            (("together", [0, 1, 0]), [18, 26]), (("span", 1, 2), [0]), (("span", 1, 3), [4]), (("rest", 1), [9, 9]),
        ])

    def test_no_fees(self):
        self.hold([3, 0, 2], [0, 0, 0], 1, [
            (("plan",), [0, 3, 0, 2]), (("lasts",), [3, 1, 1, 3]), (("sure",), [2, 3, 0]), (("each",), [0]),
            (("once",), [4]), (("cost", [5, 0, 0]), [4, 4]), (("would", 1, 7), [0, 3, 7, 2]),
            (("dear", 2, 1), [1, 3, 0, 2]), (("dear", 2, 9), [2, 3, 2, 0]), (("together", [1, 1, 1]), [0, 0]),
            (("rest", 1), [0, 0]), (("sums",), [0, 5, 0, 1]),
        ])

    def test_keeping_for_nothing(self):
        self.hold([3, 4, 2], [5, 0, 1], 0, [
            (("plan",), [5, 3, 6, 0]), (("lasts",), [3, 1, 2, 2]), (("sure",), [1, 3]), (("each",), [6]),
            (("once",), [5]), (("cost", [9, 9, 9]), [6, 1]), (("shelf", [9, 0, 0]), [8, 6, 2, 0]),
            (("would", 0, 0), [0, 0, 6, 0]), (("dear", 2, 0), [5, 3, 4, 2]), (("together", [1, 0, 0]), [5, 10]),
            (("rest", 1), [0, 5]), (("rest", 2), [1, 5]), (("sums",), [0, 9, 6, 0]),
        ])

    def test_a_fee_cheaper_on_a_day_that_needs_nothing(self):
        self.hold([2, 0, 5], [4, 1, 9], 1, [
            (("plan",), [10, 2, 5, 0]), (("lasts",), [3, 1, 1, 2]), (("sure",), [0]), (("each",), [13]),
            (("once",), [14]), (("cost", [2, 0, 5]), [13, 3]), (("would", 1, 3), [10, 2, 8, 0]),
            (("dear", 1, 9), [13, 2, 0, 5]), (("rest", 1), [6, 4]), (("rest", 2), [9, 4]),
        ])

    def test_a_need_of_another_on_a_day_on_which_one_orders_anyhow(self):
        # The other pays no fee of its own: not on a day that needs something, not on one that needs nothing.
        self.hold([2, 0, 5], [4, 1, 9], 1, [
            (("together", [0, 3, 0]), [10, 11]), (("together", [7, 0, 0]), [10, 14]),
            (("together", [1000, 1000, 0]), [10, 15]), (("together", [0, 0, 1]), [11, 12]),
        ])

    def test_two_plans_as_cheap_the_later_order_told(self):
        self.hold([3, 5], [7, 5], 1, [
            (("plan",), [12, 3, 5]), (("lasts",), [2, 1, 2]), (("sure",), [1, 3]), (("each",), [12]), (("once",), [12]),
            (("cost", [8, 0]), [12, 0]), (("would", 1, 4), [11, 7, 0]), (("dear", 1, 6), [12, 8, 0]),
            (("would", 1, 5), [12, 3, 5]), (("together", [1, 0]), [12, 19]), (("rest", 1), [5, 7]),
        ])

    def test_a_plan_with_something_left_at_the_end(self):
        self.hold([5, 4], [10, 3], 2, [
            (("cost", [5, 7]), [19, 6]), (("shelf", [5, 7]), [3, 0, 3]), (("cost", [12, 0]), [30, 17]),
            (("shelf", [12, 0]), [10, 7, 3]), (("plan",), [13, 5, 4]), (("once",), [18]),
        ])

    def test_one_day(self):
        self.hold([4], [9], 5, [
            (("plan",), [9, 4]), (("lasts",), [1, 1]), (("settled", 0), [1]), (("sure",), [0]), (("each",), [9]),
            (("once",), [9]), (("cost", [5]), [14, 5]), (("shelf", [5]), [1, 1]), (("would", 0, 0), [0, 0]),
            (("dear", 0, 1), [1, 4]), (("together", [3]), [9, 18]), (("span", 0, 1), [4]), (("span", 1, 1), [0]),
            (("rest", 0), [9, 0]), (("rest", 1), [0, 9]), (("sums",), [0, 4, 9, 5]), (("state",), [1, 4, 9]),
        ])

    def test_the_last_day_settled(self):
        self.hold([1, 1], [9, 1], 2, [
            (("plan",), [10, 1, 1]), (("lasts",), [2, 1, 2]), (("settled", 1), [1]), (("sure",), [1, 1]),
            (("each",), [10]), (("once",), [11]), (("would", 1, 0), [9, 1, 0]), (("would", 0, 0), [1, 0, 1]),
            (("dear", 1, 3), [11, 2, 0]), (("together", [0, 1]), [10, 11]), (("rest", 1), [1, 9]),
        ])


if __name__ == "__main__":
    unittest.main()
