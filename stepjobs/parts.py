"""What a house is made of: machines, jobs and their steps."""


class Machine:
    # Rests are pairs (from when, up to when), in the order of time.
    def __init__(self, change, rests):
        self.change = change
        self.rests = rests


class Step:
    # The machine is its number; the length is without a change, which depends on the order.
    def __init__(self, machine, kind, length):
        self.machine = machine
        self.kind = kind
        self.length = length


class Job:
    def __init__(self, start, due, weight, steps):
        self.start = start
        self.due = due
        self.weight = weight
        self.steps = steps
