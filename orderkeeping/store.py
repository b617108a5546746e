"""The calls on one store, and how they are read from one list of whole numbers."""

from orderkeeping.reckoning import best_orders, least_and_plan, least_of, plan_told, what_it_costs, what_lies

NO_SUCH = -2
NONE_SETTLED = -6
NOT_BEGUN = -11
TOO_LITTLE = -12
OUT_OF_RANGE = -22

MOST_DAYS = 10
MOST_KEEPING = 100
MOST_NEED = 1000
MOST_FEE = 10000
MOST_ORDERED = 100000

BEGIN = 0

# By a call's number: how many whole numbers it has. Those of WITH_ROW have a row instead, its length ahead.
SIZES = (2, 2, 2, 1, 1, 0, 1, 0, 0, 0, 1, 0, 0, 0, 2, 2, 0, 2, 1, 0, 0)
WITH_ROW = (8, 9, 16)


# A begun store has at least one day, so one without days is not begun.
class Store:
    def __init__(self):
        self.needs = []
        self.fees = []
        self.keeping = 0


# Found anew each time: at ten days that's cheap, and nothing can be out of date.
def best_of(store):
    return best_orders(store.needs, store.fees, store.keeping)


# Each call takes the store and its whole numbers (or its row) as one list, so that one table holds
# them all. It answers a list; a refusal is its number alone, given back before anything is changed.
def begin(store, given):
    days = given[0]
    keeping = given[1]
    if days < 1 or days > MOST_DAYS or keeping > MOST_KEEPING:
        return [OUT_OF_RANGE]
    store.needs = [0] * days
    store.fees = [0] * days
    store.keeping = keeping
    return [0]


# 0 says that there's nothing to refuse: no refusal has that number.
def day_refusal(amounts, day, amount, most):
    if day >= len(amounts):
        return NO_SUCH
    if amount > most:
        return OUT_OF_RANGE
    return 0


def put(amounts, day, amount, most):
    refusal = day_refusal(amounts, day, amount, most)
    if refusal < 0:
        return [refusal]
    was = amounts[day]
    amounts[day] = amount
    return [was]


def need(store, given):
    return put(store.needs, given[0], given[1], MOST_NEED)


def fee(store, given):
    return put(store.fees, given[0], given[1], MOST_FEE)


def keep(store, given):
    if given[0] > MOST_KEEPING:
        return [OUT_OF_RANGE]
    was = store.keeping
    store.keeping = given[0]
    return [was]


def least(store, given):
    if given[0] > len(store.needs):
        return [OUT_OF_RANGE]
    return [best_of(store).leasts[given[0]]]


def plan(store, given):
    return least_and_plan(store.needs, store.fees, store.keeping)


def last(store, given):
    if given[0] > len(store.needs):
        return [OUT_OF_RANGE]
    return [best_of(store).lasts[given[0]]]


def lasts(store, given):
    # The first number is for no days at all: it isn't told.
    return [len(store.needs)] + best_of(store).lasts[1:]


# 0, as in day_refusal, says that there's nothing to refuse.
def plan_refusal(store, ordered):
    if len(ordered) != len(store.needs) or max(ordered) > MOST_ORDERED:
        return OUT_OF_RANGE
    if min(what_lies(store.needs, ordered)) < 0:
        return TOO_LITTLE
    return 0


def cost(store, given):
    refusal = plan_refusal(store, given)
    if refusal < 0:
        return [refusal]
    spent = what_it_costs(store.needs, given, store.fees, store.keeping)
    return [spent, spent - least_of(store.needs, store.fees, store.keeping)]


def shelf(store, given):
    refusal = plan_refusal(store, given)
    if refusal < 0:
        return [refusal]
    lies = what_lies(store.needs, given)
    return [sum(lies)] + lies


# Both are day + 1: so many days there are up to this one, it with them, and so a last order on it is told.
def is_settled(best, day):
    return best.lasts[day + 1] == day + 1


def settled(store, given):
    if given[0] >= len(store.needs):
        return [NO_SUCH]
    return [1 if is_settled(best_of(store), given[0]) else 0]


def sure(store, given):
    best = best_of(store)
    found = [day for day in range(len(store.needs)) if is_settled(best, day)]
    if len(found) == 0:
        return [NONE_SETTLED]
    return [found[-1]] + plan_told(best, store.needs, found[-1])


def each(store, given):
    return [what_it_costs(store.needs, store.needs, store.fees, store.keeping)]


# If nothing's needed this plan orders nothing, so that it costs nothing.
def once(store, given):
    ordered = [0] * len(store.needs)
    ordered[0] = sum(store.needs)
    return [what_it_costs(store.needs, ordered, store.fees, store.keeping)]


# A copy, since who asks what would be leaves the store as it was.
def with_other(amounts, day, amount):
    changed = list(amounts)
    changed[day] = amount
    return changed


def would(store, given):
    refusal = day_refusal(store.needs, given[0], given[1], MOST_NEED)
    if refusal < 0:
        return [refusal]
    return least_and_plan(with_other(store.needs, given[0], given[1]), store.fees, store.keeping)


def dear(store, given):
    refusal = day_refusal(store.fees, given[0], given[1], MOST_FEE)
    if refusal < 0:
        return [refusal]
    return least_and_plan(store.needs, with_other(store.fees, given[0], given[1]), store.keeping)


def together(store, given):
    if len(given) != len(store.needs) or max(given) > MOST_NEED:
        return [OUT_OF_RANGE]
    # What both need on a day may be above MOST_NEED: that bounds the one and the other alone.
    both = [store.needs[day] + given[day] for day in range(len(given))]
    own = least_of(store.needs, store.fees, store.keeping)
    other = least_of(given, store.fees, store.keeping)
    return [least_of(both, store.fees, store.keeping), own + other]


def span(store, given):
    start = given[0]
    end = given[1]
    if end > len(store.needs) or end < start:
        return [OUT_OF_RANGE]
    return [sum(store.needs[start:end])]


def rest(store, given):
    days = given[0]
    if days > len(store.needs):
        return [OUT_OF_RANGE]
    behind = least_of(store.needs[days:], store.fees[days:], store.keeping)
    return [behind, best_of(store).leasts[days]]


def sums(store, given):
    return [0, sum(store.needs), sum(store.fees), store.keeping]


def state(store, given):
    return [len(store.needs)] + store.needs + store.fees


# In the order of the calls' numbers.
CALLS = (
    begin, need, fee, keep, least, plan, last, lasts, cost, shelf, settled,
    sure, each, once, would, dear, together, span, rest, sums, state,
)


def answer_call(store, number, given):
    if number != BEGIN and len(store.needs) == 0:
        return [NOT_BEGUN]
    return CALLS[number](store, given)


def answers(calls):
    store = Store()
    told = []
    place = 0
    while place < len(calls):
        number = calls[place]
        start = place + 1
        size = SIZES[number]
        if number in WITH_ROW:
            size = calls[start]
            start = start + 1
        answer = answer_call(store, number, calls[start:start + size])
        told.append(len(answer))
        told.extend(answer)
        place = start + size
    return told
