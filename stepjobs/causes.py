"""Why a job ends when it does: the chain of steps that kept one another waiting."""

CAUSE_OWN = 0
CAUSE_MACHINE = 1
CAUSE_FROM = 2
CAUSE_REST = 3


# Only asked where there is one.
def last_place(numbers, number):
    return max([place for place, one in enumerate(numbers) if one == number])


def place_of_last_step(placed, number):
    return last_place([step.job for step in placed], number)


def place_before_on_machine(placed, place):
    return last_place([step.machine for step in placed[:place]], placed[place].machine)


def cause_of(jobs, placed, place):
    step = placed[place]
    if step.ready < step.begin:
        return CAUSE_REST
    if step.which == 0:
        return CAUSE_FROM if step.begin == jobs[step.job].start else CAUSE_MACHINE
    own = placed[place_of_last_step(placed[:place], step.job)]
    return CAUSE_OWN if step.begin == own.stop else CAUSE_MACHINE


# A list of (job, which of its steps, cause), from the job's last step on, back.
def chain(jobs, placed, number):
    links = []
    place = place_of_last_step(placed, number)
    while True:
        step = placed[place]
        cause = cause_of(jobs, placed, place)
        links.append((step.job, step.which, cause))
        if cause == CAUSE_OWN:
            place = place_of_last_step(placed[:place], step.job)
        elif cause == CAUSE_MACHINE:
            place = place_before_on_machine(placed, place)
        else:
            return links
