"""Which order is the best, how many orders there are, and how many of them cost as little."""

from stepjobs.bounds import steps_together
from stepjobs.timing import job_cost, new_timetable


class Beginning:
    # The best of all beginnings of orders that leave the same ahead: whatever follows costs and ends alike behind
    # each of them, so the others lead to no better order. Ways is how many of them cost as little as this one.
    def __init__(self, timetable, order, spent, ended, ways):
        self.timetable = timetable
        self.order = order
        # Of the jobs that have ended: what they cost, and their ends added together.
        self.spent = spent
        self.ended = ended
        self.ways = ways


def rank(beginning):
    return (beginning.spent, beginning.ended, beginning.order)


def with_next(beginning, number):
    timetable = beginning.timetable.copied()
    placed = timetable.put(number)
    spent = beginning.spent
    ended = beginning.ended
    if not timetable.has_more(number):
        spent = spent + job_cost(timetable.jobs[number], placed.stop)
        ended = ended + placed.stop
    return Beginning(timetable, beginning.order + [number], spent, ended, beginning.ways)


def as_one(beginnings):
    best = min(beginnings, key=rank)
    ways = sum([one.ways for one in beginnings if one.spent == best.spent])
    return Beginning(best.timetable, best.order, best.spent, best.ended, ways)


# All beginnings that are longer by one number, those that leave the same ahead as one.
def longer_by_one(beginnings, jobs):
    alike = {}
    for beginning in beginnings:
        for number in range(len(jobs)):
            if beginning.timetable.has_more(number):
                longer = with_next(beginning, number)
                alike.setdefault(longer.timetable.ahead(), []).append(longer)
    return [as_one(group) for group in alike.values()]


# A beginning with all numbers is an order: the best one, with its cost, its ends and its ways.
def best_order(machines, jobs):
    beginnings = [Beginning(new_timetable(machines, jobs), [], 0, 0, 1)]
    for step in range(steps_together(jobs)):
        beginnings = longer_by_one(beginnings, jobs)
    return as_one(beginnings)


def how_many_orders(jobs):
    orders = 1
    length = 0
    for job in jobs:
        # In how many ways the job's numbers stand among those so far; by k in turn, each division leaves nothing over.
        for k in range(1, len(job.steps) + 1):
            length = length + 1
            orders = orders * length // k
    return orders
