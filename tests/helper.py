"""Calls by name, and a second, slower reckoning to hold the program's against."""

from itertools import product

from orderkeeping.store import answers

NAMES = (
    "begin", "need", "fee", "keep", "least", "plan", "last", "lasts", "cost", "shelf", "settled",
    "sure", "each", "once", "would", "dear", "together", "span", "rest", "sums", "state",
)
TOP = 4294967295


def written(calls):
    """The calls as one list of whole numbers. A call is its name, then its numbers or its row."""
    numbers = []
    for name, *given in calls:
        numbers.append(NAMES.index(name))
        for value in given:
            if isinstance(value, (list, tuple)):
                numbers.append(len(value))
                numbers.extend(value)
            else:
                numbers.append(value)
    return numbers


def parted(numbers):
    """One list of answers, parted into a list for each call."""
    parts = []
    place = 0
    while place < len(numbers):
        size = numbers[place]
        part = numbers[place + 1:place + 1 + size]
        if size < 1 or len(part) != size:
            raise ValueError(f"the answers do not part at {place}: {numbers}")
        parts.append(part)
        place += 1 + size
    return parts


def ask(*calls):
    """What each of these calls on a new object answers."""
    parts = parted(answers(written(calls)))
    if len(parts) != len(calls):
        raise ValueError(f"{len(calls)} calls, {len(parts)} answers")
    return parts


def setting(needs, fees, keeping):
    """The calls that begin an object with these."""
    calls = [("begin", len(needs), keeping)]
    calls += [("need", day, n) for day, n in enumerate(needs)]
    calls += [("fee", day, n) for day, n in enumerate(fees)]
    return calls


def ask_of(needs, fees, keeping, *calls):
    """What each of these calls answers on an object that was begun with these."""
    before = setting(needs, fees, keeping)
    return ask(*before, *calls)[len(before):]


def looking(days):
    """Calls that show all that an object of so many days keeps (they clear it as they go)."""
    calls = [("state",), ("sums",), ("lasts",), ("plan",)]
    calls += [("least", t) for t in range(days + 2)]
    calls += [("need", day, 0) for day in range(days)]
    calls += [("fee", day, 0) for day in range(days)]
    return calls + [("keep", 0)]


def lies_behind(needs, plan):
    """What lies there behind each day's need, or None if there's too little some day."""
    lies = [sum(plan[:day + 1]) - sum(needs[:day + 1]) for day in range(len(needs))]
    return None if any(there < 0 for there in lies) else lies


def cost_of(needs, fees, keeping, plan):
    """What a plan costs, or None if there's too little some day."""
    lies = lies_behind(needs, plan)
    if lies is None:
        return None
    return sum(fee for fee, n in zip(fees, plan) if n) + keeping * sum(lies)


def least_of_all_plans(needs, fees, keeping):
    """The cheapest of all plans, tried one by one."""
    # A number above all that's needed only adds to what lies there, so none is tried.
    costs = [cost_of(needs, fees, keeping, plan) for plan in product(range(sum(needs) + 1), repeat=len(needs))]
    return min(cost for cost in costs if cost is not None)


def least_of_order_days(needs, fees, keeping):
    """The cheapest over all choices of order days, each day served by the nearest order ahead of it."""
    best = None
    for chosen in product((False, True), repeat=len(needs)):
        plan = [0] * len(needs)
        place = None
        for day, n in enumerate(needs):
            place = day if chosen[day] else place
            if place is not None:
                plan[place] += n
        cost = cost_of(needs, fees, keeping, plan)
        if cost is not None and (best is None or cost < best):
            best = cost
    return best


def last_as_told(needs, fees, keeping, t):
    """The last order's day and one for the first t days, word by word; the leasts by trying order days."""
    if t == 0:
        return 0
    if needs[t - 1] == 0:
        return last_as_told(needs, fees, keeping, t - 1)
    found = None
    for i in range(t):
        kept = sum(keeping * needs[j] * (j - i) for j in range(i, t))
        together = least_of_order_days(needs[:i], fees[:i], keeping) + fees[i] + kept
        if found is None or together <= found[0]:
            found = (together, i + 1)
    return found[1]


def plan_as_told(needs, fees, keeping, t):
    """The plan told for the first t days, word by word."""
    last = last_as_told(needs, fees, keeping, t)
    if last == 0:
        return [0] * t
    ahead = plan_as_told(needs, fees, keeping, last - 1)
    return ahead + [sum(needs[last - 1:t])] + [0] * (t - last)
