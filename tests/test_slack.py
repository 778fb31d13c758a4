import random
import unittest

from tests.helper import (MOST, ask, calls_for, cost_by_the_words, drop, job, last, machine, one_order,
                          rows_by_the_words, slack, some_house, times)


class HowMuch(unittest.TestCase):
    def test_none(self):
        self.assertEqual(last(machine(0), job(0, 4, 1, (0, 0, 4)), slack(0, 0, 0)), [0])

    def test_none_of_a_job_that_is_late_already(self):
        self.assertEqual(last(machine(0), job(0, 3, 1, (0, 0, 4)), slack(0, 0, 0)), [0])
        self.assertEqual(last(machine(0), job(0, 0, 1000, (0, 0, 4)), slack(0, 0, 0)), [0])

    def test_up_to_the_due_time(self):
        for more in [1, 2, 50, 99, 100]:
            self.assertEqual(last(machine(0), job(0, 4 + more, 1, (0, 0, 4)), slack(0, 0, 0)), [more])

    def test_never_more_than_100(self):
        for more in [101, 102, 5000]:
            self.assertEqual(last(machine(0), job(0, 4 + more, 1, (0, 0, 4)), slack(0, 0, 0)), [100])

    def test_longer_than_a_step_may_be_told(self):
        self.assertEqual(last(machine(0), job(0, 10000, 1, (0, 0, 1000)), slack(0, 0, 0)), [100])
        self.assertEqual(last(machine(0), job(0, 1007, 1, (0, 0, 1000)), slack(0, 0, 0)), [7])

    def test_weight_0(self):
        self.assertEqual(last(machine(0), job(0, 0, 0, (0, 0, 4)), slack(0, 0, 0)), [100])

    def test_weight_0_that_keeps_another_waiting(self):
        there = [machine(0), job(0, 0, 0, (0, 0, 4)), job(0, 15, 1, (0, 0, 5))]
        self.assertEqual(last(*there, slack(0, 0, 0, 1)), [6])
        self.assertEqual(last(*there, slack(0, 0, 1, 0)), [100])

    def test_by_another_order_another_number(self):
        there = [machine(0), job(0, 20, 1, (0, 0, 4)), job(0, 15, 1, (0, 0, 5))]
        self.assertEqual(ask(*there, slack(0, 0, 0, 1), slack(0, 0, 1, 0), slack(1, 0, 0, 1), slack(1, 0, 1, 0))[3:],
                         [[6], [11], [6], [10]])

    def test_each_step_of_a_job(self):
        there = [machine(0), machine(0), job(0, 20, 1, (0, 0, 4), (1, 0, 5)), job(0, 12, 1, (0, 0, 3))]
        self.assertEqual(ask(*there, slack(0, 0, 0, 1, 0), slack(0, 1, 0, 1, 0))[4:], [[5], [11]])

    def test_time_to_wait_in_takes_it_up(self):
        # Job 1's second step waits for the machine until 30 in any case.
        there = [machine(0), machine(0), job(0, 0, 1, (1, 0, 30)), job(0, 35, 1, (0, 0, 10), (1, 0, 5))]
        self.assertEqual(last(*there, slack(1, 0, 0, 1, 1)), [20])

    def test_a_cost_that_there_is_already_may_stay(self):
        # Job 0 is late whatever job 1 does; only what costs more than before counts.
        there = [machine(0), machine(0), job(0, 0, 5, (1, 0, 30)), job(0, 18, 1, (0, 0, 10))]
        self.assertEqual(last(*there, slack(1, 0, 0, 1)), [8])

    def test_all_costs_together(self):
        there = [machine(0), job(0, 99, 1, (0, 0, 1)), job(0, 30, 1, (0, 0, 2)), job(0, 7, 1, (0, 0, 3))]
        self.assertEqual(last(*there, slack(0, 0, 0, 1, 2)), [1])
        self.assertEqual(last(*there, slack(0, 0, 0, 2, 1)), [3])
        self.assertEqual(last(*there, slack(0, 0, 2, 1, 0)), [93])

    def test_the_change_stays_as_it_is(self):
        there = [machine(10), job(0, 17, 1, (0, 1, 2)), job(0, 30, 1, (0, 1, 3))]
        self.assertEqual(last(*there, slack(0, 0, 0, 1)), [5])
        self.assertEqual(last(*there, slack(1, 0, 0, 1)), [15])


class AtARest(unittest.TestCase):
    def test_fits_ahead_of_it_just_so_far(self):
        there = [machine(0, (10, 200)), job(0, 50, 1, (0, 0, 4))]
        self.assertEqual(last(*there, slack(0, 0, 0)), [6])

    def test_jumps_over_it_where_that_costs_nothing(self):
        there = [machine(0, (10, 20)), job(0, 50, 1, (0, 0, 4))]
        self.assertEqual(last(*there, slack(0, 0, 0)), [26])

    def test_the_due_time_ahead_of_it(self):
        there = [machine(0, (10, 20)), job(0, 9, 1, (0, 0, 4))]
        self.assertEqual(last(*there, slack(0, 0, 0)), [5])

    def test_none_ahead_of_it(self):
        there = [machine(0, (10, 200)), job(0, 50, 1, (0, 0, 10))]
        self.assertEqual(last(*there, slack(0, 0, 0)), [0])

    def test_another_step_that_is_pushed_over_it(self):
        there = [machine(0, (10, 200)), job(0, 99, 1, (0, 0, 4)), job(0, 99, 1, (0, 0, 3))]
        self.assertEqual(last(*there, slack(0, 0, 0, 1)), [3])
        self.assertEqual(last(*there, slack(1, 0, 0, 1)), [3])

    def test_behind_it(self):
        there = [machine(0, (1, 10)), job(0, 30, 1, (0, 0, 4))]
        self.assertEqual(last(*there, slack(0, 0, 0)), [16])

    def test_a_rest_takes_up_what_is_longer(self):
        # Job 1 begins at 20 whether job 0 stops at 4 or at 10, and job 0 itself may last.
        there = [machine(0, (10, 20)), job(0, 99, 1, (0, 0, 4)), job(0, 28, 1, (0, 0, 8))]
        self.assertEqual(last(*there, slack(0, 0, 0, 1)), [6])

    def test_with_the_change(self):
        there = [machine(3, (10, 200)), job(0, 50, 1, (0, 1, 4))]
        self.assertEqual(last(*there, slack(0, 0, 0)), [3])


class Refused(unittest.TestCase):
    def setUp(self):
        self.there = [machine(0), job(0, 50, 1, (0, 0, 2), (0, 0, 3)), job(0, 50, 1, (0, 0, 4))]

    def test_no_such_job(self):
        for number in [2, 3, 8, MOST]:
            self.assertEqual(last(*self.there, slack(number, 0, 0, 1, 0)), [-2])

    def test_no_such_step_of_a_job_that_there_is(self):
        for number, which in [(0, 2), (0, 3), (0, MOST), (1, 1), (1, 2), (1, MOST)]:
            self.assertEqual(last(*self.there, slack(number, which, 0, 1, 0)), [-2])

    def test_every_step_there_is(self):
        for number, which in [(0, 0), (0, 1), (1, 0)]:
            self.assertEqual(last(*self.there, slack(number, which, 0, 1, 0)), [41])

    def test_no_order(self):
        for order in [(), (0, 0), (0, 1), (0, 0, 1, 1), (0, 1, 1), (0, 0, 0), (0, 0, 2), (0, 0, MOST), (0,) * 18]:
            self.assertEqual(last(*self.there, slack(0, 1, *order)), [-6])
            self.assertEqual(last(*self.there, slack(1, 0, *order)), [-6])

    def test_both(self):
        for number, which in [(2, 0), (MOST, MOST), (0, 2), (1, 1)]:
            for order in [(), (0, 0), (0, 0, 2), (MOST,) * 20]:
                self.assertEqual(last(*self.there, slack(number, which, *order)), [-2])

    def test_without_jobs(self):
        self.assertEqual(last(slack(0, 0)), [-2])
        self.assertEqual(last(machine(0), slack(MOST, 0)), [-2])
        self.assertEqual(last(machine(0), slack(0, 0, 0)), [-2])

    def test_a_job_that_was_dropped(self):
        self.assertEqual(last(*self.there, drop(1), slack(1, 0, 0, 0)), [-2])
        self.assertEqual(last(*self.there, drop(0), slack(0, 1, 0)), [-2])
        self.assertEqual(last(*self.there, drop(0), slack(0, 0, 0)), [46])


class Afterwards(unittest.TestCase):
    def test_nothing_has_changed(self):
        there = [machine(1, (4, 6)), job(0, 30, 1, (0, 0, 2), (0, 1, 3)), job(0, 50, 2, (0, 2, 4))]
        before = last(*there, times(0, 1, 0))
        for one in [slack(0, 0, 0, 1, 0), slack(0, 1, 0, 0, 1), slack(1, 0, 1, 0, 0), slack(0, 0, 0),
                    slack(2, 0, 0, 0, 1), slack(1, 1, 0, 0, 1), slack(2, 0)]:
            self.assertEqual(last(*there, one, times(0, 1, 0)), before)

    def test_asked_twice(self):
        there = [machine(0), job(0, 50, 1, (0, 0, 2))]
        self.assertEqual(ask(*there, slack(0, 0, 0), slack(0, 0, 0))[2:], [[48], [48]])


class AgainstTheWords(unittest.TestCase):
    def cost(self, machines, jobs, order, number, which, more):
        start, due, weight, steps = jobs[number]
        on, kind, length = steps[which]
        steps = [*steps[:which], (on, kind, length + more), *steps[which + 1:]]
        others = [*jobs[:number], (start, due, weight, steps), *jobs[number + 1:]]
        return cost_by_the_words(others, rows_by_the_words(machines, others, order))

    def test_many_houses(self):
        source = random.Random(27)
        for turn in range(60):
            machines, jobs = some_house(source, 6)
            jobs = [(start, due + source.choice([0, 20, 80, 140]), weight, steps) for start, due, weight, steps in jobs]
            order = one_order(jobs)
            source.shuffle(order)
            number = source.randrange(len(jobs))
            which = source.randrange(len(jobs[number][3]))
            costs = [self.cost(machines, jobs, order, number, which, more) for more in range(101)]
            expected = max(more for more in range(101) if costs[more] <= costs[0])
            with self.subTest(machines=machines, jobs=jobs, order=order, number=number, which=which):
                self.assertEqual(last(*calls_for(machines, jobs), slack(number, which, *order)), [expected])


if __name__ == "__main__":
    unittest.main()
