"""A house with its machines and jobs, and the answers to the calls about it."""

from stepjobs.bounds import MOST_MACHINES, MOST_STEPS, is_order, job_fits, machine_fits, steps_together
from stepjobs.parts import Job, Machine, Step
from stepjobs.timing import cost, job_ends, put_in_time

CALL_BEGINS = 0
CALL_MACHINE = 1
CALL_JOB = 2
CALL_DROP = 3
CALL_TIMES = 4

OUT_OF_BOUNDS = -1
NOT_THERE = -2
NO_ROOM = -5
NO_ORDER = -6


class House:
    def __init__(self):
        self.machines = []
        self.jobs = []

    def begin_anew(self):
        self.machines = []
        self.jobs = []
        return [0]

    def add_machine(self, machine):
        if not machine_fits(machine):
            return [OUT_OF_BOUNDS]
        if len(self.machines) == MOST_MACHINES:
            return [NO_ROOM]
        self.machines.append(machine)
        return [len(self.machines) - 1]

    def add_job(self, job):
        if not job_fits(job, self.machines):
            return [OUT_OF_BOUNDS]
        if steps_together(self.jobs) + len(job.steps) > MOST_STEPS:
            return [NO_ROOM]
        self.jobs.append(job)
        return [len(self.jobs) - 1]

    def drop_job(self, number):
        if number >= len(self.jobs):
            return [NOT_THERE]
        self.jobs.pop(number)
        return [len(self.jobs)]

    def times_by(self, order):
        if not is_order(self.jobs, order):
            return [NO_ORDER]
        placed = put_in_time(self.machines, self.jobs, order)
        answer = [cost(self.jobs, job_ends(self.jobs, placed)), len(placed)]
        for step in placed:
            answer.extend([step.job, step.which, step.machine, step.begin, step.stop])
        return answer


def told_machine(numbers):
    rests = [(numbers[k], numbers[k + 1]) for k in range(1, len(numbers), 2)]
    return Machine(numbers[0], rests)


def told_job(numbers):
    steps = [Step(numbers[k], numbers[k + 1], numbers[k + 2]) for k in range(3, len(numbers), 3)]
    return Job(numbers[0], numbers[1], numbers[2], steps)


def answer_to(house, call, numbers):
    if call == CALL_BEGINS:
        return house.begin_anew()
    if call == CALL_MACHINE:
        return house.add_machine(told_machine(numbers))
    if call == CALL_JOB:
        return house.add_job(told_job(numbers))
    if call == CALL_DROP:
        return house.drop_job(numbers[0])
    if call == CALL_TIMES:
        return house.times_by(numbers)
    raise NotImplementedError(f"call {call} is not answered yet")


def answers(calls):
    house = House()
    given = []
    place = 0
    while place < len(calls):
        behind = place + 2 + calls[place + 1]
        answer = answer_to(house, calls[place], calls[place + 2:behind])
        given.append(len(answer))
        given.extend(answer)
        # The number behind is how many lists the call has: always 0, so there is nothing more to pass.
        place = behind + 1
    return given
