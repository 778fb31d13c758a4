"""How steps are put in time by an order, and what that costs."""


class Placed:
    # A step as it was put; job and machine are numbers.
    def __init__(self, job, which, machine, begin, stop):
        self.job = job
        self.which = which
        self.machine = machine
        self.begin = begin
        self.stop = stop


class Timetable:
    def __init__(self, machines, jobs):
        self.machines = machines
        self.jobs = jobs
        self.upcoming = [0 for job in jobs]
        self.job_stops = [job.start for job in jobs]
        self.machine_stops = [0 for machine in machines]
        # A machine's first step takes no change if its kind is 0.
        self.kinds = [0 for machine in machines]

    def put(self, number):
        which = self.upcoming[number]
        step = self.jobs[number].steps[which]
        machine = self.machines[step.machine]
        takes = step.length
        if step.kind != self.kinds[step.machine]:
            takes = takes + machine.change
        ready = max(self.job_stops[number], self.machine_stops[step.machine])
        begin = first_time(machine.rests, ready, takes)
        stop = begin + takes
        self.upcoming[number] = which + 1
        self.job_stops[number] = stop
        self.machine_stops[step.machine] = stop
        self.kinds[step.machine] = step.kind
        return Placed(number, which, step.machine, begin, stop)


def first_time(rests, ready, takes):
    begin = ready
    # One walk is enough: the rests lie in the order of time, so one that is passed is not touched later.
    for rest_begin, rest_end in rests:
        if begin < rest_end and rest_begin < begin + takes:
            begin = rest_end
    return begin


def put_in_time(machines, jobs, order):
    timetable = Timetable(machines, jobs)
    placed = []
    for number in order:
        placed.append(timetable.put(number))
    return placed


def job_ends(jobs, placed):
    ends = [0 for job in jobs]
    for step in placed:
        # A job's steps are put one behind another, so its last one is what stays.
        ends[step.job] = step.stop
    return ends


def cost(jobs, ends):
    return sum([job.weight * max(0, end - job.due) for job, end in zip(jobs, ends)])
