"""How much longer a step may last before its order costs more."""

from stepjobs.parts import Job, Step
from stepjobs.timing import order_cost

MOST_LONGER = 100


# The jobs are copied as far as they change, for the house keeps its own.
def with_longer_step(jobs, number, which, longer):
    job = jobs[number]
    step = job.steps[which]
    steps = list(job.steps)
    steps[which] = Step(step.machine, step.kind, step.length + longer)
    others = list(jobs)
    others[number] = Job(job.start, job.due, job.weight, steps)
    return others


def most_longer(machines, jobs, number, which, order):
    before = order_cost(machines, jobs, order)
    longer = MOST_LONGER
    while order_cost(machines, with_longer_step(jobs, number, which, longer), order) > before:
        longer = longer - 1
    return longer
