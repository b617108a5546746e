"""Point 4: would, dear, together, span, rest, sums, state."""

import unittest

from helper import TOP, ask, ask_of, looking

NEEDS = [5, 0, 4]
FEES = [10, 3, 20]


class Asking(unittest.TestCase):
    def told(self, needs, fees, keeping, *calls):
        """What these calls answer; behind each of them all is as it was."""
        days = len(needs)
        as_it_was = ask_of(needs, fees, keeping, *looking(days))
        for call in calls:
            behind = ask_of(needs, fees, keeping, ("state",), ("sums",), ("plan",), call, ("state",), ("sums",),
                            ("plan",), *looking(days))
            self.assertEqual(behind[:3], behind[4:7], call)
            self.assertEqual(behind[7:], as_it_was, call)
        return ask_of(needs, fees, keeping, *calls)


class Would(Asking):
    def test_ordinary(self):
        told = self.told(NEEDS, FEES, 1, ("would", 1, 2), ("would", 2, 0), ("would", 0, 0), ("would", 2, 30))
        self.assertEqual(told, [[17, 5, 6, 0], [10, 5, 0, 0], [7, 0, 4, 0], [30, 5, 0, 30]])

    def test_one_day(self):
        told = self.told([4], [9], 5, ("would", 0, 0), ("would", 0, 1), ("would", 0, 1000))
        self.assertEqual(told, [[0, 0], [9, 1], [9, 1000]])

    def test_of_two_as_cheap_the_later_order(self):
        told = self.told([3, 0], [7, 5], 1, ("would", 1, 4), ("would", 1, 5), ("would", 1, 6))
        self.assertEqual(told, [[11, 7, 0], [12, 3, 5], [12, 3, 6]])

    def test_the_most(self):
        told = self.told(NEEDS, FEES, 1, ("would", 0, 1000), ("would", 0, 1001), ("would", 2, TOP))
        self.assertEqual(told, [[17, 1000, 4, 0], [-22], [-22]])


class Dear(Asking):
    def test_ordinary(self):
        told = self.told(NEEDS, FEES, 1, ("dear", 1, 100), ("dear", 0, 0), ("dear", 2, 6), ("dear", 2, 0))
        self.assertEqual(told, [[18, 9, 0, 0], [7, 5, 4, 0], [16, 5, 0, 4], [10, 5, 0, 4]])

    def test_one_day(self):
        told = self.told([4], [9], 5, ("dear", 0, 0), ("dear", 0, 10000))
        self.assertEqual(told, [[0, 4], [10000, 4]])
        self.assertEqual(self.told([0], [9], 5, ("dear", 0, 10000)), [[0, 0]])

    def test_of_two_as_cheap_the_later_order(self):
        told = self.told(NEEDS, FEES, 1, ("dear", 1, 3), ("dear", 1, 4), ("dear", 1, 5))
        self.assertEqual(told, [[17, 5, 4, 0], [18, 5, 4, 0], [18, 9, 0, 0]])

    def test_the_most(self):
        told = self.told(NEEDS, FEES, 1, ("dear", 0, 1001), ("dear", 0, 10000), ("dear", 0, 10001), ("dear", 2, TOP))
        self.assertEqual(told, [[1008, 5, 4, 0], [10007, 5, 4, 0], [-22], [-22]])


class WouldAndDear(Asking):
    def test_with_what_stands_there_they_are_plan(self):
        for needs, fees, keeping in ((NEEDS, FEES, 1), ([0], [9], 5), ([1000] * 10, [10000] * 10, 100)):
            plan = ask_of(needs, fees, keeping, ("plan",))[0]
            for name, amounts in (("would", needs), ("dear", fees)):
                told = self.told(needs, fees, keeping, *[(name, day, n) for day, n in enumerate(amounts)])
                self.assertEqual(told, [plan] * len(needs))

    def test_they_are_what_plan_tells_once_it_is_so(self):
        for name, change, most in (("would", "need", 1000), ("dear", "fee", 10000)):
            for day in range(3):
                for n in (0, 1, 4, 7, 8, 17, most):
                    told = ask_of(NEEDS, FEES, 1, (name, day, n), (change, day, n), ("plan",))
                    self.assertEqual(told[0], told[2])

    def test_no_such_day(self):
        for days in (1, 3, 10):
            for name, there in (("would", 1), ("dear", 0)):
                calls = [(name, days - 1, there), (name, days, there), (name, TOP, 0)]
                told = self.told([1] * days, [0] * days, 1, *calls)
                self.assertEqual(told, [[0] + [1] * days, [-2], [-2]])

    def test_no_such_day_comes_ahead_of_out_of_range(self):
        for name, most in (("would", 1000), ("dear", 10000)):
            told = self.told(NEEDS, FEES, 1, (name, 3, most + 1), (name, 3, most), (name, TOP, TOP))
            self.assertEqual(told, [[-2]] * 3)


class Together(Asking):
    def test_ordinary(self):
        # By itself the other costs 10; 13, all ordered on day 0; 20, on day 1 or on day 2.
        told = self.told(NEEDS, FEES, 1, ("together", [1, 0, 0]), ("together", [1, 1, 1]), ("together", [0, 0, 17]))
        self.assertEqual(told, [[17, 27], [18, 30], [30, 37]])

    def test_another_s_need_on_a_day_on_which_one_orders_anyhow(self):
        told = self.told(NEEDS, FEES, 1, ("together", [0, 2, 0]), ("together", [1000, 0, 0]))
        self.assertEqual(told, [[17, 20], [17, 27]])

    def test_nothing_is_needed_by_the_other(self):
        self.assertEqual(self.told(NEEDS, FEES, 1, ("together", [0, 0, 0])), [[17, 17]])
        self.assertEqual(self.told([0, 0, 0], FEES, 1, ("together", NEEDS)), [[17, 17]])
        self.assertEqual(self.told([0, 0, 0], FEES, 1, ("together", [0, 0, 0])), [[0, 0]])

    def test_both_need_the_most_on_a_day(self):
        self.assertEqual(self.told([1000], [9], 5, ("together", [1000])), [[9, 18]])
        # Together 2,000 would lie over the night: a second order is cheaper, and by itself each is kept.
        told = self.told([0, 1000], [0, 10000], 8, ("together", [0, 1000]))
        self.assertEqual(told, [[10000, 16000]])
        told = self.told([1000] * 10, [10000] * 10, 100, ("together", [1000] * 10))
        self.assertEqual(told, [[100000, 200000]])

    def test_one_day(self):
        told = self.told([4], [9], 5, ("together", [0]), ("together", [3]))
        self.assertEqual(told, [[9, 9], [9, 18]])

    def test_no_fees(self):
        self.assertEqual(self.told(NEEDS, [0, 0, 0], 1, ("together", [7, 7, 7])), [[0, 0]])

    def test_as_many_as_days(self):
        for days in range(1, 11):
            calls = [("together", [0] * length) for length in range(15)]
            told = self.told([1] + [0] * (days - 1), [4] * days, 1, *calls)
            self.assertEqual(told, [[4, 4] if length == days else [-22] for length in range(15)])

    def test_the_most(self):
        for place in range(3):
            for number, refused in ((1000, False), (1001, True), (TOP, True)):
                other = [0, 0, 0]
                other[place] = number
                told = self.told(NEEDS, FEES, 1, ("together", other))
                self.assertEqual(told == [[-22]], refused)

    def test_wrong_in_both_ways(self):
        told = self.told(NEEDS, FEES, 1, ("together", []), ("together", [TOP] * 14), ("together", [1001]))
        self.assertEqual(told, [[-22]] * 3)


class Span(Asking):
    def test_each_span_of_days(self):
        needs = [5, 0, 4, 1000]
        for i in range(5):
            for j in range(i, 5):
                self.assertEqual(self.told(needs, [7, 7, 7, 7], 9, ("span", i, j)), [[sum(needs[i:j])]])

    def test_ordinary(self):
        told = self.told(NEEDS, FEES, 1, ("span", 0, 3), ("span", 0, 2), ("span", 1, 2), ("span", 1, 3), ("span", 2, 3))
        self.assertEqual(told, [[9], [5], [0], [4], [4]])

    def test_i_equal_to_j(self):
        for days in (1, 3, 10):
            told = self.told([6] * days, [0] * days, 1, *[("span", i, i) for i in range(days + 1)])
            self.assertEqual(told, [[0]] * (days + 1))

    def test_i_above_j(self):
        told = self.told(NEEDS, FEES, 1, ("span", 1, 0), ("span", 3, 2), ("span", 4, 3), ("span", TOP, 0),
                         ("span", TOP, 3))
        self.assertEqual(told, [[-22]] * 5)

    def test_j_above_how_many_days_there_are(self):
        for days in (1, 3, 10):
            told = self.told([6] * days, [0] * days, 1, ("span", 0, days), ("span", 0, days + 1), ("span", 0, TOP),
                             ("span", days, days + 1), ("span", days + 1, days + 1), ("span", TOP, TOP))
            self.assertEqual(told, [[6 * days]] + [[-22]] * 5)

    def test_the_greatest_numbers(self):
        self.assertEqual(self.told([1000] * 10, [0] * 10, 0, ("span", 0, 10), ("span", 9, 10)), [[10000], [1000]])


class Rest(Asking):
    def test_ordinary(self):
        told = self.told(NEEDS, FEES, 1, ("rest", 0), ("rest", 1), ("rest", 2), ("rest", 3))
        self.assertEqual(told, [[17, 0], [7, 10], [20, 10], [0, 17]])

    def test_how_many_days_there_are_and_one_above(self):
        for days in (1, 3, 10):
            told = self.told([6] * days, [4] * days, 1, ("rest", 0), ("rest", days), ("rest", days + 1), ("rest", TOP))
            self.assertEqual(told, [[4 * days, 0], [0, 4 * days], [-22], [-22]])

    def test_nothing_is_needed_there(self):
        told = self.told([0, 5, 0], [1, 9, 9], 1, ("rest", 0), ("rest", 1), ("rest", 2), ("rest", 3))
        self.assertEqual(told, [[6, 0], [9, 0], [0, 6], [0, 6]])

    def test_it_is_the_least_of_an_object_with_these_days_alone(self):
        needs, fees = [3, 0, 8, 2, 0, 6], [9, 1, 7, 7, 2, 8]
        for t in range(6):
            alone = ask_of(needs[t:], fees[t:], 2, ("least", 6 - t))[0]
            ahead = ask_of(needs, fees, 2, ("least", t))[0]
            self.assertEqual(self.told(needs, fees, 2, ("rest", t)), [alone + ahead])

    def test_the_greatest_numbers(self):
        told = self.told([1000] * 10, [10000] * 10, 100, ("rest", 0), ("rest", 4), ("rest", 10))
        self.assertEqual(told, [[100000, 0], [60000, 40000], [0, 100000]])


class SumsAndState(Asking):
    def test_ordinary(self):
        told = self.told(NEEDS, FEES, 1, ("sums",), ("state",))
        self.assertEqual(told, [[0, 9, 33, 1], [3, 5, 0, 4, 10, 3, 20]])

    def test_at_first(self):
        for days in range(1, 11):
            told = ask(("begin", days, 7), ("sums",), ("state",))
            self.assertEqual(told[1:], [[0, 0, 0, 7], [days] + [0] * (2 * days)])

    def test_the_greatest_numbers(self):
        told = self.told([1000] * 10, [10000] * 10, 100, ("sums",), ("state",))
        self.assertEqual(told, [[0, 10000, 100000, 100], [10] + [1000] * 10 + [10000] * 10])

    def test_one_day(self):
        self.assertEqual(self.told([4], [9], 5, ("sums",), ("state",)), [[0, 4, 9, 5], [1, 4, 9]])

    def test_they_follow_what_is_changed(self):
        told = ask_of(NEEDS, FEES, 1, ("need", 1, 6), ("fee", 2, 8), ("keep", 4), ("sums",), ("state",),
                      ("begin", 1, 2), ("sums",), ("state",))
        self.assertEqual(told[3:5], [[0, 15, 21, 4], [3, 5, 6, 4, 10, 3, 8]])
        self.assertEqual(told[6:], [[0, 0, 0, 2], [1, 0, 0]])


if __name__ == "__main__":
    unittest.main()
