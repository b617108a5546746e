"""The interface: one list of whole numbers in, one list of whole numbers out."""

import unittest

import orderkeeping.store
from helper import NAMES, TOP, written

LINE = [
    ("begin", 3, 1), ("need", 0, 5), ("need", 2, 4), ("fee", 0, 10), ("fee", 1, 3), ("fee", 2, 20), ("keep", 1),
    ("plan",), ("lasts",), ("least", 2), ("last", 3), ("cost", [9, 0, 0]), ("shelf", [9, 0, 0]), ("settled", 0),
    ("cost", []), ("shelf", [0, 0, 9]), ("settled", 3), ("begin", 0, 0), ("settled", 2),
    ("sure",), ("each",), ("once",), ("would", 1, 2), ("dear", 1, 100), ("together", [0, 2, 0]), ("span", 0, 2),
    ("rest", 1), ("sums",), ("state",),
    ("would", 3, 0), ("would", 0, 1001), ("dear", 3, 0), ("dear", 0, 10001), ("together", []), ("span", 1, 0),
    ("rest", 4), ("need", 0, 0), ("sure",), ("state",),
]


class Interface(unittest.TestCase):
    def test_number_by_number(self):
        calls = [0, 3, 1, 1, 0, 5, 1, 2, 4, 2, 0, 10, 2, 1, 3, 2, 2, 20, 3, 1,
                 5, 7, 4, 2, 6, 3, 8, 3, 9, 0, 0, 9, 3, 9, 0, 0, 10, 0,
                 8, 0, 9, 3, 0, 0, 9, 10, 3, 0, 0, 0, 10, 2,
                 11, 12, 13, 14, 1, 2, 15, 1, 100, 16, 3, 0, 2, 0, 17, 0, 2,
                 18, 1, 19, 20,
                 14, 3, 0, 14, 0, 1001, 15, 3, 0, 15, 0, 10001, 16, 0, 17, 1, 0,
                 18, 4, 1, 0, 0, 11, 20]
        self.assertEqual(written(LINE), calls)
        self.assertEqual(
            orderkeeping.store.answers(calls),
            [1, 0, 1, 0, 1, 0, 1, 0, 1, 0, 1, 0, 1, 1,
             4, 17, 5, 4, 0, 4, 3, 1, 1, 2, 1, 10, 1, 2, 2, 18, 1, 4, 8, 4, 4, 0, 1, 1,
             1, -22, 1, -12, 1, -2, 1, -22, 1, 0,
             1, 0, 1, 30, 1, 18, 4, 17, 5, 6, 0, 4, 18, 9, 0, 0, 2, 17, 20, 1, 5,
             2, 7, 10, 4, 0, 9, 33, 1, 7, 3, 5, 0, 4, 10, 3, 20,
             1, -2, 1, -22, 1, -2, 1, -22, 1, -22, 1, -22,
             1, -22, 1, 5, 1, -6, 7, 3, 0, 0, 4, 10, 3, 20],
        )

    def test_what_is_handed_in_stays_as_it_was(self):
        calls = written(LINE)
        before = list(calls)
        orderkeeping.store.answers(calls)
        self.assertEqual(calls, before)

    def test_what_is_handed_in_is_not_changed_for_a_while_either(self):
        class Fixed(list):
            def refuse(self, *given):
                raise AssertionError("the list was changed")

            __setitem__ = __delitem__ = __iadd__ = __imul__ = refuse
            append = extend = insert = pop = remove = reverse = sort = clear = refuse

        calls = written(LINE)
        self.assertEqual(orderkeeping.store.answers(Fixed(calls)), orderkeeping.store.answers(calls))

    def test_a_second_time_it_answers_the_same(self):
        calls = written(LINE)
        first = orderkeeping.store.answers(calls)
        kept = list(first)
        second = orderkeeping.store.answers(calls)
        self.assertEqual(first, second)
        second.append(7)
        self.assertEqual(first, kept)
        self.assertEqual(orderkeeping.store.answers(calls), kept)

    def test_nothing_is_kept_from_one_time_to_the_next(self):
        orderkeeping.store.answers(written(LINE))
        self.assertEqual(orderkeeping.store.answers([5]), [1, -11])
        self.assertEqual(orderkeeping.store.answers([0, 1, 0, 1, 0, 0]), [1, 0, 1, 0])

    def test_each_call_is_among_them(self):
        self.assertEqual(set(call[0] for call in LINE), set(NAMES))

    def test_only_whole_numbers_in_a_list(self):
        told = orderkeeping.store.answers(written(LINE))
        self.assertIs(type(told), list)
        self.assertEqual(set(type(number) for number in told), {int})

    def test_a_row_of_call_numbers_is_a_row(self):
        self.assertEqual(
            orderkeeping.store.answers([0, 4, 0, 8, 4, 0, 1, 1, 0, 9, 4, 8, 4, 5, 7, 7]),
            [1, 0, 2, 0, 0, 5, 61, 8, 12, 17, 24, 5, 4, 0, 0, 0, 0],
        )

    def test_a_row_behind_together_too(self):
        self.assertEqual(
            orderkeeping.store.answers([0, 2, 0, 16, 2, 20, 19, 16, 0, 16, 14] + [16] * 14 + [20]),
            [1, 0, 2, 0, 0, 1, -22, 1, -22, 5, 2, 0, 0, 0, 0],
        )

    def test_four_hundred_calls(self):
        # Not by assertEqual: two long lists that differ take minutes to be told apart.
        told = orderkeeping.store.answers([0, 10, 100] + [5] * 399)
        self.assertTrue(told == [1, 0] + ([11] + [0] * 11) * 399)

    def test_as_many_numbers_as_may_be_handed_in(self):
        for number in (8, 9, 16):
            calls = [0, 10, 100] + ([number, 14] + [TOP] * 14) * 399
            self.assertLessEqual(len(calls), 6400)
            self.assertTrue(orderkeeping.store.answers(calls) == [1, 0] + [1, -22] * 399)


if __name__ == "__main__":
    unittest.main()
