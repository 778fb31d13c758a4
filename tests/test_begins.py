import unittest

from tests.helper import ask, begins, drop, job, last, machine, times


class Begins(unittest.TestCase):
    def test_on_a_new_house(self):
        self.assertEqual(ask(begins()), [[0]])

    def test_again_and_again(self):
        self.assertEqual(ask(begins(), begins(), begins()), [[0], [0], [0]])

    def test_a_new_house_has_no_machines_and_no_jobs(self):
        self.assertEqual(ask(drop(0), job(0, 0, 0, (0, 0, 1)), times()), [[-2], [-1], [0, 0]])

    def test_answers_0_when_machines_and_jobs_are_there(self):
        self.assertEqual(last(machine(0), machine(0), job(0, 0, 0, (1, 0, 1)), begins()), [0])

    def test_the_machines_are_gone(self):
        self.assertEqual(last(machine(0), begins(), job(0, 0, 0, (0, 0, 1))), [-1])

    def test_the_jobs_are_gone(self):
        there = [machine(0), job(0, 0, 1, (0, 0, 5)), begins()]
        self.assertEqual(last(*there, drop(0)), [-2])
        self.assertEqual(last(*there, times()), [0, 0])
        self.assertEqual(last(*there, times(0)), [-6])

    def test_machine_numbers_begin_at_0_again(self):
        found = ask(machine(0), machine(0), begins(), machine(0), machine(0))
        self.assertEqual(found, [[0], [1], [0], [0], [1]])

    def test_job_numbers_begin_at_0_again(self):
        one = job(0, 0, 0, (0, 0, 1))
        found = ask(machine(0), one, one, begins(), machine(0), one, one)
        self.assertEqual(found, [[0], [0], [1], [0], [0], [0], [1]])

    def test_there_is_room_again(self):
        four = [machine(0)] * 4
        eight = job(0, 0, 0, *[(0, 0, 1)] * 8)
        found = ask(*four, eight, begins(), *four, eight)
        self.assertEqual(found, [[0], [1], [2], [3], [0]] + [[0]] + [[0], [1], [2], [3], [0]])

    def test_what_was_told_of_a_machine_before_is_forgotten(self):
        rows = last(machine(7, (0, 50)), begins(), machine(0), job(0, 0, 0, (0, 1, 3)), times(0))
        self.assertEqual(rows, [0, 1, 0, 0, 0, 0, 3])


if __name__ == "__main__":
    unittest.main()
