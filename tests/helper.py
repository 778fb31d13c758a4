"""Builds calls as the interface tells them, and takes the answers apart again."""

from stepjobs.house import answers

MOST = 4294967295


def call(number, numbers):
    return [number, len(numbers), *numbers, 0]


def begins():
    return call(0, [])


def machine(change, *rests):
    return call(1, [change, *[time for rest in rests for time in rest]])


def job(start, due, weight, *steps):
    return call(2, [start, due, weight, *[value for step in steps for value in step]])


def drop(number):
    return call(3, [number])


def times(*order):
    return call(4, list(order))


def best():
    return call(5, [])


def ways():
    return call(6, [])


def why(number, *order):
    return call(7, [number, *order])


def slack(number, which, *order):
    return call(8, [number, which, *order])


def joined(calls):
    return [number for one in calls for number in one]


def apart(given):
    found = []
    place = 0
    while place < len(given):
        behind = place + 1 + given[place]
        if given[place] < 1 or behind > len(given):
            raise AssertionError(f"no answers: {given!r}")
        found.append(given[place + 1:behind])
        place = behind
    return found


def ask(*calls):
    """The answers to these calls on a new house, a list each."""
    found = apart(answers(joined(calls)))
    if len(found) != len(calls):
        raise AssertionError(f"{len(calls)} calls, {len(found)} answers")
    return found


def last(*calls):
    return ask(*calls)[-1]


def rows_in(answer, width):
    """What stands behind an answer's first number, and behind how many rows there are."""
    rows = [tuple(answer[place:place + width]) for place in range(2, len(answer), width)]
    if answer[1] != len(rows) or len(answer) != 2 + width * len(rows):
        raise AssertionError(f"no rows of {width} numbers: {answer!r}")
    return rows


def placed(*calls):
    """The rows (job, which, machine, begin, stop) that the last call, of times, answers."""
    return rows_in(last(*calls), 5)


def chain(*calls):
    """The rows (job, which, cause) that the last call, of why, answers."""
    return rows_in(last(*calls), 3)


def ends_in(answer):
    """The jobs' ends, by their numbers, in an answer of times."""
    ends = {row[0]: row[4] for row in rows_in(answer, 5)}
    return [ends[number] for number in sorted(ends)]


def some_house(source, most_steps):
    """A few machines (change, rests) and jobs (start, due, weight, steps), small enough that all meet all."""
    machines = []
    for number in range(source.randint(1, 4)):
        edges = sorted(source.sample(range(30), 2 * source.randint(0, 4)))
        machines.append((source.randint(0, 4), list(zip(edges[::2], edges[1::2]))))
    jobs = []
    left = source.randint(1, most_steps)
    while left > 0:
        steps = source.randint(1, left)
        left -= steps
        jobs.append((source.randint(0, 12), source.randint(0, 25), source.randint(0, 5),
                     [(source.randrange(len(machines)), source.randint(0, 2), source.randint(1, 6))
                      for step in range(steps)]))
    return machines, jobs


def calls_for(machines, jobs):
    return [machine(change, *rests) for change, rests in machines] + [
        job(start, due, weight, *steps) for start, due, weight, steps in jobs]


def one_order(jobs):
    return [number for number, one in enumerate(jobs) for step in one[3]]


def touches(rests, begin, takes):
    return any(a <= time < b for time in range(begin, begin + takes) for a, b in rests)


def rows_by_the_words(machines, jobs, order):
    """Put in time once more, one unit of time after another: rows as those of placed."""
    done = []
    for number in order:
        own = [row for row in done if row[0] == number]
        on, kind, length = jobs[number][3][len(own)]
        there = [row for row in done if row[2] == on]
        kind_before = jobs[there[-1][0]][3][there[-1][1]][1] if there else 0
        takes = length + (machines[on][0] if kind != kind_before else 0)
        begin = own[-1][4] if own else jobs[number][0]
        if there and there[-1][4] > begin:
            begin = there[-1][4]
        while touches(machines[on][1], begin, takes):
            begin += 1
        done.append((number, len(own), on, begin, begin + takes))
    return done


def ends_by_the_words(jobs, rows):
    return [max(row[4] for row in rows if row[0] == number) for number in range(len(jobs))]


def cost_by_the_words(jobs, rows):
    ends = ends_by_the_words(jobs, rows)
    return sum(weight * (end - due) for (start, due, weight, steps), end in zip(jobs, ends) if end > due)
