"""Drawn lines of calls: each answer as the document's words give it, and what's refused changes nothing."""

import unittest
from functools import lru_cache
from random import Random

from helper import NAMES, TOP, ask, cost_of, least_of_order_days, lies_behind, last_as_told, plan_as_told, written
from orderkeeping.store import answers

CHANGING = ("begin", "need", "fee", "keep")
BY_DAY = ("need", "fee", "would", "dear", "settled")
BY_HOW_MANY = ("least", "last", "rest")
MOST = {"need": 1000, "would": 1000, "fee": 10000, "dear": 10000}


@lru_cache(maxsize=None)
def least(needs, fees, keeping):
    return least_of_order_days(needs, fees, keeping)


@lru_cache(maxsize=None)
def last(needs, fees, keeping, t):
    return last_as_told(needs, fees, keeping, t)


@lru_cache(maxsize=None)
def plan(needs, fees, keeping, t):
    return plan_as_told(needs, fees, keeping, t)


class Words:
    """An object as the words have it: needs and fees are tuples, made anew at each change."""

    def __init__(self):
        self.needs, self.fees, self.keeping = (), (), 0

    def refusal(self, name, given):
        """The refusal that is told first, or None."""
        days = len(self.needs)
        if name != "begin" and days == 0:
            return -11
        if name in BY_DAY and given[0] not in range(days):
            return -2
        wrong = {
            "begin": lambda: not (1 <= given[0] <= 10 and given[1] <= 100),
            "keep": lambda: given[0] > 100,
            "span": lambda: given[1] > days or given[1] < given[0],
            "together": lambda: len(given[0]) != days or any(n > 1000 for n in given[0]),
        }
        wrong.update({call: lambda: given[1] > MOST[name] for call in MOST})
        wrong.update({call: lambda: given[0] > days for call in BY_HOW_MANY})
        wrong.update({call: lambda: len(given[0]) != days or any(n > 100000 for n in given[0])
                      for call in ("cost", "shelf")})
        if name in wrong and wrong[name]():
            return -22
        if name in ("cost", "shelf") and lies_behind(self.needs, given[0]) is None:
            return -12
        return -6 if name == "sure" and not self.settled_days() else None

    def all_of(self):
        return self.needs, self.fees, self.keeping

    def settled_days(self):
        return [day for day in range(len(self.needs)) if last(*self.all_of(), day + 1) == day + 1]

    def change(self, name, given):
        """What a call that changes answers, once it isn't refused."""
        if name == "begin":
            self.needs, self.fees, self.keeping = (0,) * given[0], (0,) * given[0], given[1]
            return [0]
        if name == "keep":
            was, self.keeping = self.keeping, given[0]
            return [was]
        was = self.needs if name == "need" else self.fees
        then = was[:given[0]] + (given[1],) + was[given[0] + 1:]
        self.needs, self.fees = (then, self.fees) if name == "need" else (self.needs, then)
        return [was[given[0]]]

    def answer(self, name, given):
        refused = self.refusal(name, given)
        if refused is not None:
            return [refused]
        if name in CHANGING:
            return self.change(name, given)
        needs, fees, keeping = self.all_of()
        days = len(needs)
        told = {
            "least": lambda t: [least(needs[:t], fees[:t], keeping)],
            "plan": lambda: [least(needs, fees, keeping)] + plan(needs, fees, keeping, days),
            "last": lambda t: [last(needs, fees, keeping, t)],
            "lasts": lambda: [days] + [last(needs, fees, keeping, t + 1) for t in range(days)],
            "cost": lambda row: [cost_of(needs, fees, keeping, row),
                                 cost_of(needs, fees, keeping, row) - least(needs, fees, keeping)],
            "shelf": lambda row: [sum(lies_behind(needs, row))] + lies_behind(needs, row),
            "settled": lambda t: [int(t in self.settled_days())],
            "sure": lambda: [max(self.settled_days())] + plan(needs, fees, keeping, max(self.settled_days())),
            "each": lambda: [sum(fee for n, fee in zip(needs, fees) if n)],
            "once": lambda: [fees[0] + sum(keeping * n * day for day, n in enumerate(needs)) if any(needs) else 0],
            "would": lambda t, n: self.would_be(needs[:t] + (n,) + needs[t + 1:], fees),
            "dear": lambda t, n: self.would_be(needs, fees[:t] + (n,) + fees[t + 1:]),
            "together": lambda row: [least(tuple(n + m for n, m in zip(needs, row)), fees, keeping),
                                     least(needs, fees, keeping) + least(tuple(row), fees, keeping)],
            "span": lambda i, j: [sum(n for day, n in enumerate(needs) if i <= day < j)],
            "rest": lambda t: [least(needs[t:], fees[t:], keeping), least(needs[:t], fees[:t], keeping)],
            "sums": lambda: [0, sum(needs), sum(fees), keeping],
            "state": lambda: [days, *needs, *fees],
        }
        return told[name](*given)

    def would_be(self, needs, fees):
        return [least(needs, fees, self.keeping)] + plan(needs, fees, self.keeping, len(needs))


def drawn_call(source, days, most_days):
    """One call; mostly one that isn't refused on an object of about so many days."""
    name = source.choice(NAMES[1:]) if source.random() < 0.97 else "begin"
    day = source.choice(list(range(days + 2)) + [TOP])
    if name == "begin":
        how_many = source.choice([0, 11, TOP] + list(range(1, most_days + 1)) * 3)
        return name, how_many, source.choice([0, 1, 2, 100, 101])
    if name in ("need", "would"):
        return name, day, source.choice([0, 0, 1, 2, 3, 4, 5, 9, 1000, 1001, TOP])
    if name in ("fee", "dear"):
        return name, day, source.choice([0, 1, 2, 3, 4, 6, 8, 11, 1001, 10000, 10001, TOP])
    if name == "keep":
        return name, source.choice([0, 1, 1, 2, 2, 3, 100, 101, TOP])
    if name == "span":
        return name, day, source.choice(list(range(days + 2)) + [TOP])
    if name in ("cost", "shelf", "together"):
        size = days if source.random() < 0.9 else source.randint(0, 14)
        return name, drawn_row(source, name, size)
    if name in BY_DAY + BY_HOW_MANY:
        return name, day
    return (name,)


def drawn_row(source, name, size):
    if name == "together":
        return [source.choice([0, 0, 0, 1, 1, 2, 5, 1000]) if source.random() < 0.98 else 1001 for place in range(size)]
    row = [source.choice([0, 0, 1, 4, 9]) if source.random() < 0.98 else 100001 for place in range(size)]
    # Enough ahead of all other orders, else nearly each plan would be refused.
    return [source.choice([20, 5000, 100000])] + row[1:] if size else row


def drawn_line(source, most_days, length):
    days = source.randint(1, most_days)
    line = [drawn_call(source, days, most_days) for turn in range(source.randint(0, 2))]
    line.append(("begin", days, source.randint(0, 3)))
    while len(line) < length:
        call = drawn_call(source, days, most_days)
        if call[0] == "begin" and 1 <= call[1] <= 10 and call[2] <= 100:
            days = call[1]
        line.append(call)
    return line


class Lines(unittest.TestCase):
    def hold(self, line):
        """That each answer is as the words give it; it tells which calls were answered how."""
        words = Words()
        told = ask(*line)
        for place, (name, *given) in enumerate(line):
            right = words.answer(name, given)
            self.assertEqual(told[place], right, (line[:place + 1], words.all_of()))
        return told

    def test_short_lines_of_few_days(self):
        source = Random(21)
        seen = set()
        for turn in range(150):
            line = drawn_line(source, 4, source.randint(1, 60))
            seen.update((call[0], min(part[0], 0)) for call, part in zip(line, self.hold(line)))
        # Each call is answered, and each refusal that the words have for it is seen.
        self.assertEqual(seen, self.all_that_may_be())

    def all_that_may_be(self):
        may_be = {(name, 0) for name in NAMES} | {(name, -11) for name in NAMES[1:]} | {(name, -2) for name in BY_DAY}
        may_be |= {(name, -22) for name in ("begin", "keep", "span", "together", "cost", "shelf")}
        may_be |= {(name, -22) for name in list(MOST) + list(BY_HOW_MANY)}
        return may_be | {("cost", -12), ("shelf", -12), ("sure", -6)}

    def test_lines_of_more_days(self):
        source = Random(22)
        for turn in range(12):
            self.hold(drawn_line(source, 7, 60))

    def test_a_line_of_four_hundred_calls(self):
        self.hold(drawn_line(Random(23), 3, 400))

    def test_what_is_refused_changes_nothing(self):
        source = Random(24)
        for turn in range(60):
            line = drawn_line(source, 10, 120)
            told = ask(*line)
            taken = [place for place, part in enumerate(told) if part[0] >= 0]
            self.assertEqual(ask(*[line[place] for place in taken]), [told[place] for place in taken])

    def test_a_refusal_is_its_number_alone_and_no_other_number_is_below_0(self):
        source = Random(25)
        for turn in range(60):
            for part in ask(*drawn_line(source, 10, 120)):
                self.assertTrue(part in ([-2], [-6], [-11], [-12], [-22]) or min(part) >= 0, part)

    def test_what_only_asks_changes_nothing(self):
        source = Random(26)
        for turn in range(60):
            line = drawn_line(source, 10, 120)
            told = ask(*line)
            changing = [place for place, call in enumerate(line) if call[0] in CHANGING]
            self.assertEqual(ask(*[line[place] for place in changing]), [told[place] for place in changing])

    def test_the_list_stays_as_it_was_and_a_second_call_answers_the_same(self):
        source = Random(27)
        for turn in range(30):
            calls = written(drawn_line(source, 10, 200))
            before = list(calls)
            first = answers(calls)
            self.assertTrue(calls == before)
            self.assertTrue(answers(calls) == first)
            self.assertTrue(calls == before)


if __name__ == "__main__":
    unittest.main()
