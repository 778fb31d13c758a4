"""Which machines and jobs a house takes, and which rows of numbers are orders."""

MOST_MACHINES = 4
MOST_RESTS = 4
MOST_STEPS = 8
MOST_CHANGE = 1000
MOST_WEIGHT = 1000
MOST_KIND = 9
MOST_LENGTH = 1000
LAST_TIME = 10000


def rests_fit(rests):
    ended = 0
    for begin, end in rests:
        if begin < ended or end <= begin or end > LAST_TIME:
            return False
        ended = end
    return True


def machine_fits(machine):
    if machine.change > MOST_CHANGE or len(machine.rests) > MOST_RESTS:
        return False
    return rests_fit(machine.rests)


def step_fits(step, machines):
    if step.machine >= len(machines) or step.kind > MOST_KIND:
        return False
    return 1 <= step.length <= MOST_LENGTH


# How many steps the other jobs have doesn't count here: that is a refusal of its own.
def job_fits(job, machines):
    if job.start > LAST_TIME or job.due > LAST_TIME or job.weight > MOST_WEIGHT:
        return False
    if len(job.steps) == 0:
        return False
    return all([step_fits(step, machines) for step in job.steps])


def steps_together(jobs):
    return sum([len(job.steps) for job in jobs])


def is_order(jobs, order):
    # With as many numbers as steps, and enough for each job, none is left that names no job.
    if len(order) != steps_together(jobs):
        return False
    return all([order.count(number) == len(job.steps) for number, job in enumerate(jobs)])
