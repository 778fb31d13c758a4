import unittest

from tests.helper import MOST, ask, drop, job, last, machine, placed, times

STEP = (0, 0, 1)


class Drop(unittest.TestCase):
    def setUp(self):
        self.three = [machine(0), job(0, 0, 1, (0, 0, 2)), job(0, 0, 10, (0, 0, 3), (0, 0, 5)),
                      job(0, 0, 100, (0, 0, 7))]

    def test_answers_how_many_are_left(self):
        self.assertEqual(ask(*self.three, drop(1), drop(0), drop(0))[4:], [[2], [1], [0]])

    def test_how_many_are_left_counts_jobs_not_steps(self):
        self.assertEqual(last(*self.three, drop(0)), [2])
        self.assertEqual(last(*self.three, drop(2)), [2])

    def test_those_behind_it_get_lesser_numbers(self):
        found = last(*self.three, drop(0), times(1, 0, 0))
        self.assertEqual(found, [100 * 7 + 10 * 15, 3, 1, 0, 0, 0, 7, 0, 0, 0, 7, 10, 0, 1, 0, 10, 15])

    def test_those_ahead_of_it_keep_their_numbers(self):
        found = last(*self.three, drop(2), times(1, 1, 0))
        self.assertEqual(found, [10 * 8 + 10, 3, 1, 0, 0, 0, 3, 1, 1, 0, 3, 8, 0, 0, 0, 8, 10])

    def test_one_in_the_middle(self):
        found = last(*self.three, drop(1), times(1, 0))
        self.assertEqual(found, [100 * 7 + 9, 2, 1, 0, 0, 0, 7, 0, 0, 0, 7, 9])

    def test_the_next_job_has_the_number_behind_those_left(self):
        self.assertEqual(ask(*self.three, drop(0), job(0, 0, 0, STEP))[4:], [[2], [2]])

    def test_the_machines_stay(self):
        self.assertEqual(ask(machine(4), job(0, 0, 0, STEP), drop(0), machine(0))[2:], [[0], [1]])
        self.assertEqual(placed(machine(4), job(0, 0, 0, STEP), drop(0), job(0, 0, 0, (0, 1, 1)), times(0)),
                         [(0, 0, 0, 0, 5)])


class NoSuchJob(unittest.TestCase):
    def test_without_jobs(self):
        self.assertEqual(last(drop(0)), [-2])
        self.assertEqual(last(machine(0), machine(0), drop(0)), [-2])
        self.assertEqual(last(drop(MOST)), [-2])

    def test_the_first_number_too_great(self):
        there = [machine(0), job(0, 0, 0, STEP), job(0, 0, 0, STEP)]
        self.assertEqual(last(*there, drop(2)), [-2])
        self.assertEqual(last(*there, drop(1)), [1])

    def test_numbers_far_too_great(self):
        there = [machine(0), job(0, 0, 0, STEP, STEP)]
        for number in [1, 2, 8, 10000, MOST - 1, MOST]:
            self.assertEqual(last(*there, drop(number)), [-2])

    def test_a_number_that_was_dropped(self):
        there = [machine(0), job(0, 0, 0, STEP), job(0, 0, 0, STEP)]
        self.assertEqual(ask(*there, drop(1), drop(1), drop(0), drop(0))[3:], [[1], [-2], [0], [-2]])

    def test_after_a_refusal_nothing_has_changed(self):
        there = [machine(0), job(0, 0, 1, (0, 0, 2)), job(0, 0, 1, (0, 0, 3))]
        before = ask(*there, times(1, 0))[-1]
        self.assertEqual(ask(*there, drop(2), times(1, 0))[-1], before)
        self.assertEqual(last(*there, drop(2), drop(0)), [1])


class RoomAgain(unittest.TestCase):
    def test_after_a_drop_there_is_room_for_its_steps(self):
        found = ask(machine(0), job(0, 0, 0, *[STEP] * 3), job(0, 0, 0, *[STEP] * 5), job(0, 0, 0, STEP), drop(0),
                    job(0, 0, 0, *[STEP] * 4), job(0, 0, 0, *[STEP] * 3), job(0, 0, 0, STEP))
        self.assertEqual(found[3:], [[-5], [1], [-5], [1], [-5]])

    def test_a_refused_drop_makes_no_room(self):
        found = ask(machine(0), job(0, 0, 0, *[STEP] * 8), drop(1), job(0, 0, 0, STEP))
        self.assertEqual(found[2:], [[-2], [-5]])


if __name__ == "__main__":
    unittest.main()
