"""How steps are put in time by an order, and what that costs."""


class Placed:
    # A step as it was put; job and machine are numbers.
    def __init__(self, job, which, machine, ready, begin, stop):
        self.job = job
        self.which = which
        self.machine = machine
        self.ready = ready
        self.begin = begin
        self.stop = stop


class Timetable:
    # How far an order has been put in time: of each job its next step and when the one before has stopped, of each
    # machine when its last step has stopped and the kind of that.
    def __init__(self, machines, jobs, upcoming, job_stops, machine_stops, kinds):
        self.machines = machines
        self.jobs = jobs
        self.upcoming = upcoming
        self.job_stops = job_stops
        self.machine_stops = machine_stops
        self.kinds = kinds

    def put(self, number):
        which = self.upcoming[number]
        step = self.jobs[number].steps[which]
        machine = self.machines[step.machine]
        takes = step.length
        if step.kind != self.kinds[step.machine]:
            takes = takes + machine.change
        ready = max(self.job_stops[number], self.machine_stops[step.machine])
        begin = first_time(machine.rests, ready, takes)
        stop = begin + takes
        self.upcoming[number] = which + 1
        # Nothing waits for a job that has ended; without its end, timetables that go on alike are equal in all.
        self.job_stops[number] = stop if self.has_more(number) else 0
        self.machine_stops[step.machine] = stop
        self.kinds[step.machine] = step.kind
        return Placed(number, which, step.machine, ready, begin, stop)

    def has_more(self, number):
        return self.upcoming[number] < len(self.jobs[number].steps)

    # All that the times of the steps to come depend on.
    def ahead(self):
        return (tuple(self.upcoming), tuple(self.job_stops), tuple(self.machine_stops), tuple(self.kinds))

    def copied(self):
        return Timetable(self.machines, self.jobs, list(self.upcoming), list(self.job_stops),
                         list(self.machine_stops), list(self.kinds))


def new_timetable(machines, jobs):
    starts = [job.start for job in jobs]
    # A machine's first step takes no change if its kind is 0.
    kinds = [0 for machine in machines]
    return Timetable(machines, jobs, [0 for job in jobs], starts, [0 for machine in machines], kinds)


def first_time(rests, ready, takes):
    begin = ready
    # One walk is enough: the rests lie in the order of time, so one that is passed is not touched later.
    for rest_begin, rest_end in rests:
        if begin < rest_end and rest_begin < begin + takes:
            begin = rest_end
    return begin


def put_in_time(machines, jobs, order):
    timetable = new_timetable(machines, jobs)
    placed = []
    for number in order:
        placed.append(timetable.put(number))
    return placed


def job_ends(jobs, placed):
    ends = [0 for job in jobs]
    for step in placed:
        # A job's steps are put one behind another, so its last one is what stays.
        ends[step.job] = step.stop
    return ends


def late(job, end):
    return max(0, end - job.due)


def job_cost(job, end):
    return job.weight * late(job, end)


def cost(jobs, ends):
    return sum([job_cost(job, end) for job, end in zip(jobs, ends)])


def order_cost(machines, jobs, order):
    return cost(jobs, job_ends(jobs, put_in_time(machines, jobs, order)))
