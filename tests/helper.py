"""Builds calls as the interface tells them, and takes the answers apart again."""

from stepjobs.house import answers

MOST = 4294967295


def call(number, numbers):
    return [number, len(numbers), *numbers, 0]


def begins():
    return call(0, [])


def machine(change, *rests):
    return call(1, [change, *[time for rest in rests for time in rest]])


def job(start, due, weight, *steps):
    return call(2, [start, due, weight, *[value for step in steps for value in step]])


def drop(number):
    return call(3, [number])


def times(*order):
    return call(4, list(order))


def joined(calls):
    return [number for one in calls for number in one]


def apart(given):
    found = []
    place = 0
    while place < len(given):
        behind = place + 1 + given[place]
        if given[place] < 1 or behind > len(given):
            raise AssertionError(f"no answers: {given!r}")
        found.append(given[place + 1:behind])
        place = behind
    return found


def ask(*calls):
    """The answers to these calls on a new house, a list each."""
    found = apart(answers(joined(calls)))
    if len(found) != len(calls):
        raise AssertionError(f"{len(calls)} calls, {len(found)} answers")
    return found


def last(*calls):
    return ask(*calls)[-1]


def placed(*calls):
    """The rows (job, which, machine, begin, stop) that the last call, of times, answers."""
    answer = last(*calls)
    rows = [tuple(answer[place:place + 5]) for place in range(2, len(answer), 5)]
    if answer[1] != len(rows) or len(answer) != 2 + 5 * len(rows):
        raise AssertionError(f"not an answer of times: {answer!r}")
    return rows
