"""A house with its machines and jobs, and the answers to the calls about it."""

from stepjobs.bounds import MOST_MACHINES, MOST_STEPS, is_order, job_fits, machine_fits, steps_together
from stepjobs.causes import chain
from stepjobs.lasting import most_longer
from stepjobs.orders import best_order, how_many_orders
from stepjobs.parts import Job, Machine, Step
from stepjobs.timing import cost, job_ends, late, put_in_time

CALL_BEGINS = 0
CALL_MACHINE = 1
CALL_JOB = 2
CALL_DROP = 3
CALL_TIMES = 4
CALL_BEST = 5
CALL_WAYS = 6
CALL_WHY = 7
CALL_SLACK = 8

OUT_OF_BOUNDS = -1
NOT_THERE = -2
NO_ROOM = -5
NO_ORDER = -6


class House:
    def __init__(self):
        self.machines = []
        self.jobs = []

    def begin_anew(self):
        self.machines = []
        self.jobs = []
        return [0]

    def add_machine(self, machine):
        if not machine_fits(machine):
            return [OUT_OF_BOUNDS]
        if len(self.machines) == MOST_MACHINES:
            return [NO_ROOM]
        self.machines.append(machine)
        return [len(self.machines) - 1]

    def add_job(self, job):
        if not job_fits(job, self.machines):
            return [OUT_OF_BOUNDS]
        if steps_together(self.jobs) + len(job.steps) > MOST_STEPS:
            return [NO_ROOM]
        self.jobs.append(job)
        return [len(self.jobs) - 1]

    def drop_job(self, number):
        if number >= len(self.jobs):
            return [NOT_THERE]
        self.jobs.pop(number)
        return [len(self.jobs)]

    def times_by(self, order):
        if not is_order(self.jobs, order):
            return [NO_ORDER]
        placed = put_in_time(self.machines, self.jobs, order)
        answer = [cost(self.jobs, job_ends(self.jobs, placed)), len(placed)]
        for step in placed:
            answer.extend([step.job, step.which, step.machine, step.begin, step.stop])
        return answer

    def best(self):
        found = best_order(self.machines, self.jobs)
        return [found.spent, found.ended] + found.order

    def count_orders(self):
        return [how_many_orders(self.jobs), best_order(self.machines, self.jobs).ways]

    def why(self, number, order):
        if not is_order(self.jobs, order):
            return [NO_ORDER]
        if number >= len(self.jobs):
            return [NOT_THERE]
        placed = put_in_time(self.machines, self.jobs, order)
        links = chain(self.jobs, placed, number)
        answer = [late(self.jobs[number], job_ends(self.jobs, placed)[number]), len(links)]
        for job, which, cause in links:
            answer.extend([job, which, cause])
        return answer

    def slack(self, number, which, order):
        if number >= len(self.jobs) or which >= len(self.jobs[number].steps):
            return [NOT_THERE]
        if not is_order(self.jobs, order):
            return [NO_ORDER]
        return [most_longer(self.machines, self.jobs, number, which, order)]


def told_machine(numbers):
    rests = [(numbers[k], numbers[k + 1]) for k in range(1, len(numbers), 2)]
    return Machine(numbers[0], rests)


def told_job(numbers):
    steps = [Step(numbers[k], numbers[k + 1], numbers[k + 2]) for k in range(3, len(numbers), 3)]
    return Job(numbers[0], numbers[1], numbers[2], steps)


def answer_to(house, call, numbers):
    if call == CALL_BEGINS:
        return house.begin_anew()
    if call == CALL_MACHINE:
        return house.add_machine(told_machine(numbers))
    if call == CALL_JOB:
        return house.add_job(told_job(numbers))
    if call == CALL_DROP:
        return house.drop_job(numbers[0])
    if call == CALL_TIMES:
        return house.times_by(numbers)
    if call == CALL_BEST:
        return house.best()
    if call == CALL_WAYS:
        return house.count_orders()
    if call == CALL_WHY:
        return house.why(numbers[0], numbers[1:])
    if call == CALL_SLACK:
        return house.slack(numbers[0], numbers[1], numbers[2:])
    raise ValueError(f"there is no call {call}")


def answers(calls):
    house = House()
    given = []
    place = 0
    while place < len(calls):
        behind = place + 2 + calls[place + 1]
        answer = answer_to(house, calls[place], calls[place + 2:behind])
        given.append(len(answer))
        given.extend(answer)
        # The number behind is how many lists the call has: always 0, so there is nothing more to pass.
        place = behind + 1
    return given
