import unittest

from tests.helper import MOST, ask, drop, job, last, machine, placed, times

STEP = (0, 0, 1)


class Taken(unittest.TestCase):
    def taken(self, one):
        self.assertEqual(ask(machine(0), one), [[0], [0]])

    def test_jobs_are_numbered_from_0(self):
        self.assertEqual(ask(machine(0), *[job(0, 0, 0, STEP)] * 4), [[0], [0], [1], [2], [3]])

    def test_least(self):
        self.taken(job(0, 0, 0, STEP))

    def test_from_10000(self):
        self.taken(job(10000, 0, 0, STEP))

    def test_due_10000(self):
        self.taken(job(0, 10000, 0, STEP))

    def test_due_before_from(self):
        self.taken(job(9, 3, 0, STEP))

    def test_weight_1000(self):
        self.taken(job(0, 0, 1000, STEP))

    def test_kind_9(self):
        self.taken(job(0, 0, 0, (0, 9, 1)))

    def test_1_and_1000_long(self):
        self.taken(job(0, 0, 0, (0, 0, 1)))
        self.taken(job(0, 0, 0, (0, 0, 1000)))

    def test_the_last_machine_there_is(self):
        self.assertEqual(last(*[machine(0)] * 4, job(0, 0, 0, (3, 0, 1))), [0])

    def test_what_is_told_is_what_is_kept(self):
        rows = last(machine(10), machine(0), job(7, 11, 3, (1, 4, 2), (0, 5, 6)), times(0, 0))
        self.assertEqual(rows, [3 * (25 - 11), 2, 0, 0, 1, 7, 9, 0, 1, 0, 9, 25])


class OutOfBounds(unittest.TestCase):
    def refused(self, one):
        self.assertEqual(ask(machine(0), one), [[0], [-1]])
        self.assertEqual(ask(machine(0), one, times(), drop(0)), [[0], [-1], [0, 0], [-2]])

    def test_from_above_10000(self):
        self.refused(job(10001, 0, 0, STEP))
        self.refused(job(MOST, 0, 0, STEP))

    def test_due_above_10000(self):
        self.refused(job(0, 10001, 0, STEP))
        self.refused(job(0, MOST, 0, STEP))

    def test_weight_above_1000(self):
        self.refused(job(0, 0, 1001, STEP))
        self.refused(job(0, 0, MOST, STEP))

    def test_no_step(self):
        self.refused(job(0, 0, 0))

    def test_a_machine_that_there_is_not(self):
        self.refused(job(0, 0, 0, (1, 0, 1)))
        self.refused(job(0, 0, 0, (MOST, 0, 1)))
        self.assertEqual(last(job(0, 0, 0, STEP)), [-1])
        self.assertEqual(last(*[machine(0)] * 3, job(0, 0, 0, (3, 0, 1))), [-1])

    def test_a_machine_that_comes_later_does_not_count(self):
        self.assertEqual(ask(job(0, 0, 0, STEP), machine(0), job(0, 0, 0, STEP)), [[-1], [0], [0]])

    def test_kind_above_9(self):
        self.refused(job(0, 0, 0, (0, 10, 1)))
        self.refused(job(0, 0, 0, (0, MOST, 1)))

    def test_0_long(self):
        self.refused(job(0, 0, 0, (0, 0, 0)))

    def test_above_1000_long(self):
        self.refused(job(0, 0, 0, (0, 0, 1001)))
        self.refused(job(0, 0, 0, (0, 0, MOST)))

    def test_each_reason_at_any_step(self):
        for bad in [(1, 0, 1), (0, 10, 1), (0, 0, 0), (0, 0, 1001)]:
            for ahead in range(8):
                self.refused(job(0, 0, 0, *[STEP] * ahead, bad, *[STEP] * (7 - ahead)))

    def test_twelve_steps_of_great_numbers(self):
        self.refused(job(MOST, MOST, MOST, *[(MOST, MOST, MOST)] * 12))


class Room(unittest.TestCase):
    def test_eight_steps_in_one_job(self):
        self.assertEqual(last(machine(0), job(0, 0, 0, *[STEP] * 8)), [0])

    def test_nine_and_twelve_steps_in_one_job(self):
        for steps in [9, 10, 11, 12]:
            self.assertEqual(ask(machine(0), job(0, 0, 0, *[STEP] * steps), times()), [[0], [-5], [0, 0]])

    def test_eight_steps_together(self):
        self.assertEqual(ask(machine(0), *[job(0, 0, 0, STEP)] * 8)[1:], [[k] for k in range(8)])

    def test_more_than_eight_steps_together(self):
        self.assertEqual(last(machine(0), *[job(0, 0, 0, STEP)] * 9), [-5])
        found = ask(machine(0), job(0, 0, 0, *[STEP] * 5), job(0, 0, 0, *[STEP] * 4), job(0, 0, 0, *[STEP] * 3),
                    job(0, 0, 0, STEP))
        self.assertEqual(found, [[0], [0], [-5], [1], [-5]])

    def test_the_steps_count_whatever_their_machines(self):
        steps = [(k % 4, 0, 1) for k in range(9)]
        self.assertEqual(last(*[machine(0)] * 4, job(0, 0, 0, *steps)), [-5])
        self.assertEqual(last(*[machine(0)] * 4, job(0, 0, 0, *steps[:8])), [0])


class Refusals(unittest.TestCase):
    def test_out_of_bounds_counts_ahead_of_no_room(self):
        full = [machine(0), job(0, 0, 0, *[STEP] * 8)]
        for bad in [job(10001, 0, 0, STEP), job(0, 10001, 0, STEP), job(0, 0, 1001, STEP), job(0, 0, 0),
                    job(0, 0, 0, (1, 0, 1)), job(0, 0, 0, (0, 10, 1)), job(0, 0, 0, (0, 0, 0)),
                    job(0, 0, 0, (0, 0, 1001))]:
            self.assertEqual(last(*full, bad), [-1])
        self.assertEqual(last(*full, job(0, 0, 0, STEP)), [-5])

    def test_a_bad_step_behind_the_eighth_counts_ahead_of_no_room(self):
        for bad in [(1, 0, 1), (0, 10, 1), (0, 0, 0), (0, 0, 1001)]:
            self.assertEqual(last(machine(0), job(0, 0, 0, *[STEP] * 11, bad)), [-1])
            self.assertEqual(last(machine(0), job(0, 0, 0, *[STEP] * 8, bad)), [-1])

    def test_after_a_refusal_the_next_one_has_the_next_number(self):
        found = ask(machine(0), job(0, 0, 0, STEP), job(0, 0, 1001, STEP), job(0, 0, 0, *[STEP] * 8),
                    job(0, 0, 0, STEP))
        self.assertEqual(found, [[0], [0], [-1], [-5], [1]])

    def test_after_a_refusal_there_is_as_much_room_as_before(self):
        found = ask(machine(0), job(0, 0, 0, *[STEP] * 12), job(0, 0, 0, *[STEP] * 7, (0, 0, 0)),
                    job(0, 0, 0, *[STEP] * 8))
        self.assertEqual(found, [[0], [-5], [-1], [0]])

    def test_after_a_refusal_the_jobs_are_as_they_were(self):
        there = [machine(0), job(2, 0, 1, (0, 0, 3), (0, 0, 4))]
        rows = [(0, 0, 0, 2, 5), (0, 1, 0, 5, 9)]
        for refused in [job(0, 0, 0), job(0, 0, 0, (0, 0, 0)), job(0, 0, 0, *[STEP] * 7)]:
            self.assertEqual(placed(*there, refused, times(0, 0)), rows)
            self.assertEqual(last(*there, refused, times(0, 0, 1)), [-6])


if __name__ == "__main__":
    unittest.main()
