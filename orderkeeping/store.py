"""The calls on one store, and how they are read from one list of whole numbers."""

from orderkeeping.reckoning import best_orders, plan_told, what_it_costs, what_lies

NO_SUCH = -2
NOT_BEGUN = -11
TOO_LITTLE = -12
OUT_OF_RANGE = -22

MOST_DAYS = 10
MOST_KEEPING = 100
MOST_NEED = 1000
MOST_FEE = 10000
MOST_ORDERED = 100000

BEGIN = 0

# By a call's number: how many whole numbers it has. Those of WITH_ROW have a row instead, its length ahead.
# Calls that are not answered yet stand here too, so that what is behind them is read rightly.
SIZES = (2, 2, 2, 1, 1, 0, 1, 0, 0, 0, 1, 0, 0, 0, 2, 2, 0, 2, 1, 0, 0)
WITH_ROW = (8, 9, 16)


# A begun store has at least one day, so one without days is not begun.
class Store:
    def __init__(self):
        self.needs = []
        self.fees = []
        self.keeping = 0


# Found anew each time: at ten days that's cheap, and nothing can be out of date.
def best_of(store):
    return best_orders(store.needs, store.fees, store.keeping)


# Each call takes the store and its whole numbers (or its row) as one list, so that one table holds
# them all. It answers a list; a refusal is its number alone, given back before anything is changed.
def begin(store, given):
    days = given[0]
    keeping = given[1]
    if days < 1 or days > MOST_DAYS or keeping > MOST_KEEPING:
        return [OUT_OF_RANGE]
    store.needs = [0] * days
    store.fees = [0] * days
    store.keeping = keeping
    return [0]


def put(amounts, day, amount, most):
    if day >= len(amounts):
        return [NO_SUCH]
    if amount > most:
        return [OUT_OF_RANGE]
    was = amounts[day]
    amounts[day] = amount
    return [was]


def need(store, given):
    return put(store.needs, given[0], given[1], MOST_NEED)


def fee(store, given):
    return put(store.fees, given[0], given[1], MOST_FEE)


def keep(store, given):
    if given[0] > MOST_KEEPING:
        return [OUT_OF_RANGE]
    was = store.keeping
    store.keeping = given[0]
    return [was]


def least(store, given):
    if given[0] > len(store.needs):
        return [OUT_OF_RANGE]
    return [best_of(store).leasts[given[0]]]


def plan(store, given):
    best = best_of(store)
    days = len(store.needs)
    return [best.leasts[days]] + plan_told(best, store.needs, days)


def last(store, given):
    if given[0] > len(store.needs):
        return [OUT_OF_RANGE]
    return [best_of(store).lasts[given[0]]]


def lasts(store, given):
    # The first number is for no days at all: it isn't told.
    return [len(store.needs)] + best_of(store).lasts[1:]


# 0 says that the plan is not refused: no refusal has that number.
def plan_refusal(store, ordered):
    if len(ordered) != len(store.needs) or max(ordered) > MOST_ORDERED:
        return OUT_OF_RANGE
    if min(what_lies(store.needs, ordered)) < 0:
        return TOO_LITTLE
    return 0


def cost(store, given):
    refusal = plan_refusal(store, given)
    if refusal < 0:
        return [refusal]
    lies = what_lies(store.needs, given)
    spent = what_it_costs(given, lies, store.fees, store.keeping)
    return [spent, spent - best_of(store).leasts[len(store.needs)]]


def shelf(store, given):
    refusal = plan_refusal(store, given)
    if refusal < 0:
        return [refusal]
    lies = what_lies(store.needs, given)
    return [sum(lies)] + lies


def settled(store, given):
    day = given[0]
    if day >= len(store.needs):
        return [NO_SUCH]
    return [1 if best_of(store).lasts[day + 1] == day + 1 else 0]


# In the order of the calls' numbers.
CALLS = (begin, need, fee, keep, least, plan, last, lasts, cost, shelf, settled)


def answer_call(store, number, given):
    if number != BEGIN and len(store.needs) == 0:
        return [NOT_BEGUN]
    if number >= len(CALLS):
        raise NotImplementedError(f"call {number} is not answered yet")
    return CALLS[number](store, given)


def answers(calls):
    store = Store()
    told = []
    place = 0
    while place < len(calls):
        number = calls[place]
        start = place + 1
        size = SIZES[number]
        if number in WITH_ROW:
            size = calls[start]
            start = start + 1
        answer = answer_call(store, number, calls[start:start + size])
        told.append(len(answer))
        told.extend(answer)
        place = start + size
    return told
