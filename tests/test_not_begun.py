"""Before a begin that answers 0 all others answer -11."""

import unittest

from helper import NAMES, TOP, ask

OTHERS = [
    ("need", 0, 0), ("need", TOP, TOP), ("fee", 0, 0), ("fee", TOP, TOP), ("keep", 0), ("keep", TOP),
    ("least", 0), ("least", TOP), ("plan",), ("last", 0), ("last", TOP), ("lasts",),
    ("cost", []), ("cost", [0]), ("cost", [TOP] * 14), ("shelf", []), ("shelf", [0]), ("shelf", [TOP] * 14),
    ("settled", 0), ("settled", TOP),
    ("sure",), ("each",), ("once",), ("would", 0, 0), ("would", TOP, TOP), ("dear", 0, 0), ("dear", TOP, TOP),
    ("together", []), ("together", [0] * 14), ("span", 0, 0), ("span", TOP, 0), ("rest", 0), ("rest", TOP),
    ("sums",), ("state",),
]


class NotBegun(unittest.TestCase):
    def test_each_call_is_among_them(self):
        self.assertEqual(set(call[0] for call in OTHERS), set(NAMES) - {"begin"})

    def test_each_as_the_first_call(self):
        for call in OTHERS:
            self.assertEqual(ask(call), [[-11]])

    def test_all_of_them_one_behind_another(self):
        self.assertEqual(ask(*OTHERS), [[-11]] * len(OTHERS))

    def test_behind_a_refused_begin(self):
        for refused in (("begin", 0, 0), ("begin", 11, 0), ("begin", 1, 101), ("begin", TOP, TOP)):
            self.assertEqual(ask(refused, *OTHERS), [[-22]] + [[-11]] * len(OTHERS))

    def test_a_begin_behind_them_is_taken(self):
        told = ask(*OTHERS, ("begin", 0, 0), ("begin", 1, 100), ("need", 0, 1), ("keep", 0), ("plan",))
        self.assertEqual(told[len(OTHERS):], [[-22], [0], [0], [100], [0, 1]])

    def test_a_refused_begin_behind_a_taken_one(self):
        told = ask(("begin", 1, 0), ("begin", 0, 0), ("need", 0, 1), ("lasts",))
        self.assertEqual(told, [[0], [-22], [0], [1, 1]])


if __name__ == "__main__":
    unittest.main()
