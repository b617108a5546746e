"""Point 1: begin, need, fee, keep."""

import unittest

from helper import TOP, ask, looking


class Begin(unittest.TestCase):
    def test_the_range_of_days(self):
        for days in range(1, 11):
            self.assertEqual(ask(("begin", days, 3), ("lasts",)), [[0], [days] + [0] * days])
        for days in (0, 11, 12, TOP):
            self.assertEqual(ask(("begin", days, 3)), [[-22]])

    def test_the_range_of_keeping(self):
        for keeping in (0, 1, 99, 100):
            self.assertEqual(ask(("begin", 2, keeping), ("keep", 0)), [[0], [keeping]])
        for keeping in (101, 102, TOP):
            self.assertEqual(ask(("begin", 2, keeping)), [[-22]])

    def test_both_out_of_range(self):
        self.assertEqual(ask(("begin", 0, 101), ("begin", 11, TOP), ("begin", TOP, TOP)), [[-22]] * 3)

    def test_nothing_is_needed_and_no_fees(self):
        self.assertEqual(
            ask(("begin", 2, 7), *looking(2)),
            [[0], [2, 0, 0, 0, 0], [0, 0, 0, 7], [2, 0, 0], [0, 0, 0], [0], [0], [0], [-22], [0], [0], [0], [0], [7]],
        )

    def test_a_begin_behind_a_begin_starts_anew(self):
        told = ask(("begin", 3, 7), ("need", 0, 4), ("need", 2, 5), ("fee", 2, 6), ("begin", 3, 1), *looking(3))
        self.assertEqual(told[4], [0])
        self.assertEqual(told[5:], ask(("begin", 3, 1), *looking(3))[1:])

    def test_a_begin_may_change_how_many_days_there_are(self):
        told = ask(("begin", 2, 0), ("need", 2, 1), ("begin", 3, 0), ("need", 2, 1), ("begin", 1, 0), ("need", 1, 1))
        self.assertEqual(told, [[0], [-2], [0], [0], [0], [-2]])

    def test_a_refused_begin_behind_a_begin_changes_nothing(self):
        before = [("begin", 2, 7), ("need", 1, 4), ("fee", 0, 6)]
        for refused in (("begin", 0, 0), ("begin", 11, 0), ("begin", 1, 101)):
            told = ask(*before, refused, *looking(2))
            self.assertEqual(told[3], [-22])
            self.assertEqual(told[4:], ask(*before, *looking(2))[3:])


class NeedAndFee(unittest.TestCase):
    def test_how_many_were(self):
        for name in ("need", "fee"):
            told = ask(("begin", 3, 0), (name, 1, 5), (name, 1, 8), (name, 0, 2), (name, 1, 0), (name, 1, 0))
            self.assertEqual(told, [[0], [0], [5], [0], [8], [0]])

    def test_needs_and_fees_are_kept_apart(self):
        told = ask(("begin", 1, 0), ("need", 0, 5), ("fee", 0, 8), ("need", 0, 0), ("fee", 0, 0))
        self.assertEqual(told, [[0], [0], [0], [5], [8]])

    def test_the_most(self):
        for name, most in (("need", 1000), ("fee", 10000)):
            told = ask(("begin", 1, 0), (name, 0, most), (name, 0, most + 1), (name, 0, TOP), (name, 0, 0))
            self.assertEqual(told, [[0], [0], [-22], [-22], [most]])

    def test_no_such_day(self):
        for name in ("need", "fee"):
            for days in (1, 3, 10):
                told = ask(("begin", days, 0), (name, days - 1, 1), (name, days, 1), (name, TOP, 1))
                self.assertEqual(told, [[0], [0], [-2], [-2]])

    def test_no_such_day_comes_ahead_of_out_of_range(self):
        told = ask(("begin", 2, 0), ("need", 2, 1001), ("need", TOP, TOP), ("fee", 2, 10001), ("fee", TOP, TOP))
        self.assertEqual(told, [[0], [-2], [-2], [-2], [-2]])

    def test_refused_ones_change_nothing(self):
        before = [("begin", 2, 7), ("need", 0, 3), ("need", 1, 4), ("fee", 0, 6), ("fee", 1, 9)]
        as_it_was = ask(*before, *looking(2))[5:]
        for name, beyond in (("need", 1001), ("fee", 10001)):
            for refused, number in (((name, 2, 1), -2), ((name, 0, beyond), -22), ((name, 1, TOP), -22)):
                told = ask(*before, refused, *looking(2))
                self.assertEqual(told[5], [number])
                self.assertEqual(told[6:], as_it_was)


class Keep(unittest.TestCase):
    def test_what_it_was(self):
        told = ask(("begin", 1, 5), ("keep", 0), ("keep", 100), ("keep", 3), ("keep", 3))
        self.assertEqual(told, [[0], [5], [0], [100], [3]])

    def test_out_of_range(self):
        told = ask(("begin", 1, 5), ("keep", 101), ("keep", TOP), ("keep", 1))
        self.assertEqual(told, [[0], [-22], [-22], [5]])

    def test_needs_and_fees_stay(self):
        told = ask(("begin", 1, 5), ("need", 0, 4), ("fee", 0, 6), ("keep", 9), ("need", 0, 0), ("fee", 0, 0))
        self.assertEqual(told[3:], [[5], [4], [6]])

    def test_it_is_reckoned_with_from_then_on(self):
        calls = [("begin", 2, 1), ("need", 1, 3), ("fee", 1, 9), ("plan",), ("keep", 100), ("plan",)]
        self.assertEqual(ask(*calls)[3:], [[3, 3, 0], [1], [9, 0, 3]])


if __name__ == "__main__":
    unittest.main()
