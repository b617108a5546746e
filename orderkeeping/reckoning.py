"""The reckoning: what orders and keeping cost, and by which orders it costs least."""


# Both lists begin with the number for no days, then for the first day, the first two, and so on.
# Last orders are told as the day and one, so that 0 can say that nothing is ordered.
class Best:
    def __init__(self):
        self.leasts = [0]
        self.lasts = [0]


def best_orders(needs, fees, keeping):
    best = Best()
    for day in range(len(needs)):
        if needs[day] == 0:
            best.leasts.append(best.leasts[day])
            best.lasts.append(best.lasts[day])
        else:
            add_needing_day(best, needs, fees, keeping, day)
    return best


# An order is only ever needed at an empty shelf, so it's enough to try each day as the last order:
# ahead of it the least for those days, from it on one order for all.
def add_needing_day(best, needs, fees, keeping, day):
    totals = [best.leasts[i] + fees[i] + kept_from(needs, keeping, i, day) for i in range(day + 1)]
    least = min(totals)
    # Several days may be as cheap: the latest of them is the one to be told.
    last = max([i for i in range(day + 1) if totals[i] == least])
    best.leasts.append(least)
    best.lasts.append(last + 1)


# Keeping for what the days from first up to day, it with them, need, if all is ordered on first.
def kept_from(needs, keeping, first, day):
    return keeping * sum([needs[j] * (j - first) for j in range(first, day + 1)])


def plan_told(best, needs, days):
    told = [0] * days
    end = days
    while best.lasts[end] > 0:
        day = best.lasts[end] - 1
        told[day] = sum(needs[day:end])
        end = day
    return told


def least_of(needs, fees, keeping):
    return best_orders(needs, fees, keeping).leasts[len(needs)]


def least_and_plan(needs, fees, keeping):
    best = best_orders(needs, fees, keeping)
    return [best.leasts[len(needs)]] + plan_told(best, needs, len(needs))


# A number below 0 says that there's too little that day; what follows it then means nothing.
def what_lies(needs, ordered):
    lies = []
    there = 0
    for day in range(len(needs)):
        there = there + ordered[day] - needs[day]
        lies.append(there)
    return lies


# The plan is one by which there's never too little.
def what_it_costs(needs, ordered, fees, keeping):
    paid = sum([fees[day] for day in range(len(fees)) if ordered[day] > 0])
    return paid + keeping * sum(what_lies(needs, ordered))
