import itertools
import random
import time
import unittest

from tests.helper import (ask, begins, best, calls_for, cost_by_the_words, drop, ends_by_the_words, ends_in, job, last,
                          machine, one_order, rows_by_the_words, some_house, times, ways)


class Answer(unittest.TestCase):
    def test_without_jobs(self):
        self.assertEqual(last(best()), [0, 0])
        self.assertEqual(last(machine(7, (0, 10)), machine(0), best()), [0, 0])

    def test_one_job(self):
        self.assertEqual(last(machine(0), job(2, 5, 3, (0, 0, 4)), best()), [3, 6, 0])
        self.assertEqual(last(machine(0), job(2, 6, 3, (0, 0, 4)), best()), [0, 6, 0])

    def test_one_job_of_several_steps(self):
        there = [machine(0), machine(5), job(1, 4, 2, (0, 0, 2), (1, 1, 2), (0, 0, 3))]
        self.assertEqual(last(*there, best()), [2 * 9, 13, 0, 0, 0])
        self.assertEqual(last(machine(0), job(0, 0, 1, *[(0, 0, 1)] * 8), best()), [8, 8, *[0] * 8])

    def test_its_order_put_in_time_costs_and_ends_so(self):
        there = [machine(3, (4, 9)), machine(1), job(0, 5, 2, (0, 1, 2), (1, 1, 3)), job(1, 4, 3, (1, 2, 4), (0, 2, 1)),
                 job(2, 9, 1, (0, 1, 3))]
        spent, ended, *order = last(*there, best())
        found = last(*there, times(*order))
        self.assertEqual((found[0], sum(ends_in(found))), (spent, ended))

    def test_jobs_of_several_steps_in_turns(self):
        # Each job is long on one machine and short on the other: only in turns both machines are kept at work.
        there = [machine(0), machine(0), job(0, 0, 1, (0, 0, 1), (1, 0, 5)), job(0, 0, 1, (1, 0, 1), (0, 0, 5))]
        self.assertEqual(last(*there, best()), [12, 12, 0, 1, 0, 1])


class LeastCost(unittest.TestCase):
    def test_the_one_that_is_due_first(self):
        there = [machine(0), job(0, 9, 1, (0, 0, 4)), job(0, 5, 1, (0, 0, 5))]
        self.assertEqual(last(*there, best()), [0, 14, 1, 0])

    def test_the_cost_counts_ahead_of_the_ends(self):
        there = [machine(0), job(0, 100, 1, (0, 0, 1)), job(0, 20, 1, (0, 0, 20))]
        self.assertEqual(last(*there, best()), [0, 41, 1, 0])

    def test_the_cost_counts_ahead_of_the_first_order(self):
        there = [machine(0), job(0, 0, 1, (0, 0, 2)), job(0, 0, 5, (0, 0, 2)), job(0, 0, 3, (0, 0, 2))]
        self.assertEqual(last(*there, best()), [5 * 2 + 3 * 4 + 6, 12, 1, 2, 0])

    def test_weight_0(self):
        there = [machine(0), job(0, 0, 0, (0, 0, 1)), job(0, 5, 1, (0, 0, 5))]
        self.assertEqual(last(*there, best()), [0, 11, 1, 0])

    def test_weight_0_of_all(self):
        there = [machine(0), job(0, 0, 0, (0, 0, 9)), job(0, 0, 0, (0, 0, 2))]
        self.assertEqual(last(*there, best()), [0, 2 + 11, 1, 0])

    def test_changes_make_a_worse_beginning_the_better_order(self):
        # Job 0 alone would end first, but parts the two of one kind.
        there = [machine(10), job(0, 0, 1, (0, 1, 1)), job(0, 0, 1, (0, 2, 2)), job(0, 0, 1, (0, 2, 3))]
        self.assertEqual(last(*there, best()), [12 + 15 + 26, 53, 1, 2, 0])

    def test_a_rest_makes_a_worse_beginning_the_better_order(self):
        there = [machine(0, (6, 100)), job(0, 0, 1, (0, 0, 3)), job(0, 0, 2, (0, 0, 6))]
        self.assertEqual(last(*there, best()), [2 * 6 + 103, 109, 1, 0])

    def test_to_wait_is_better_than_to_begin_at_once(self):
        there = [machine(0), job(0, 100, 1, (0, 0, 50)), job(1, 2, 100, (0, 0, 1))]
        self.assertEqual(last(*there, best()), [0, 2 + 52, 1, 0])


class LeastEnds(unittest.TestCase):
    def test_nothing_late(self):
        there = [machine(0), job(0, 100, 1, (0, 0, 5)), job(0, 100, 1, (0, 0, 2))]
        self.assertEqual(last(*there, best()), [0, 9, 1, 0])

    def test_the_same_cost_above_0(self):
        there = [machine(0), job(0, 0, 2, (0, 0, 4)), job(0, 0, 1, (0, 0, 2))]
        self.assertEqual([last(*there, times(0, 1))[0], last(*there, times(1, 0))[0]], [14, 14])
        self.assertEqual(last(*there, best()), [14, 8, 1, 0])

    def test_a_job_ends_with_its_last_step(self):
        there = [machine(0), job(0, 100, 1, (0, 0, 1), (0, 0, 9)), job(0, 100, 1, (0, 0, 5))]
        self.assertEqual(last(*there, best()), [0, 5 + 15, 1, 0, 0])


class FirstOrder(unittest.TestCase):
    def test_jobs_alike(self):
        there = [machine(0), *[job(0, 0, 1, (0, 0, 2))] * 3]
        self.assertEqual(last(*there, best()), [12, 12, 0, 1, 2])

    def test_machines_apart(self):
        there = [machine(0), machine(0), job(0, 0, 1, (1, 0, 2)), job(0, 0, 1, (0, 0, 1), (0, 0, 1))]
        self.assertEqual(last(*there, best()), [4, 4, 0, 1, 1])

    def test_a_job_of_several_steps_goes_ahead_as_far_as_it_can(self):
        there = [machine(0), machine(0), job(0, 0, 1, (0, 0, 1), (0, 0, 1)), job(0, 0, 1, (1, 0, 3))]
        self.assertEqual(last(*there, best()), [5, 5, 0, 0, 1])

    def test_by_the_first_number_in_which_two_differ(self):
        # Job 2 must be first; behind it the jobs 0, 1 and 3 are alike.
        there = [machine(0), job(0, 90, 1, (0, 0, 1)), job(0, 90, 1, (0, 0, 1)), job(0, 2, 1, (0, 0, 2)),
                 job(0, 90, 1, (0, 0, 1))]
        self.assertEqual(last(*there, best()), [0, 2 + 3 + 4 + 5, 2, 0, 1, 3])

    def test_the_least_number_where_it_costs_nothing(self):
        there = [machine(0), machine(0), job(0, 90, 1, (0, 0, 7)), job(0, 90, 1, (0, 0, 4)), job(0, 90, 1, (1, 0, 1)),
                 job(0, 90, 1, (1, 0, 1))]
        self.assertEqual(last(*there, best()), [0, 4 + 11 + 1 + 2, 1, 0, 2, 3])


class Afterwards(unittest.TestCase):
    def setUp(self):
        self.there = [machine(2), job(0, 9, 1, (0, 1, 4)), job(0, 5, 1, (0, 0, 5)), job(0, 1, 9, (0, 1, 3))]

    def test_nothing_has_changed(self):
        found = ask(*self.there, times(2, 0, 1), best(), times(2, 0, 1), best())
        self.assertEqual(found[6:], found[4:6])
        self.assertEqual(last(*self.there, best(), drop(0)), [2])

    def test_after_drop(self):
        self.assertEqual(last(*self.there, best(), drop(2), best()), [2, 16, 1, 0])
        self.assertEqual(last(*self.there, best(), drop(1), best()), [36, 5 + 9, 1, 0])
        self.assertEqual(last(*self.there, drop(0), drop(0), drop(0), best()), [0, 0])

    def test_after_begins(self):
        self.assertEqual(last(*self.there, best(), begins(), best()), [0, 0])
        self.assertEqual(last(*self.there, begins(), machine(0), job(0, 0, 1, (0, 1, 4)), best()), [4, 4, 0])


def all_orders(jobs):
    """Every order there is, the first one first."""
    return sorted(set(itertools.permutations(one_order(jobs))))


class AgainstEveryOrder(unittest.TestCase):
    """Best and ways beside every order there is, put in time one unit after another."""

    def check(self, machines, jobs):
        ranks = []
        for order in all_orders(jobs):
            rows = rows_by_the_words(machines, jobs, order)
            ranks.append((cost_by_the_words(jobs, rows), sum(ends_by_the_words(jobs, rows)), order))
        spent, ended, order = min(ranks)
        as_little = [one for one in ranks if one[0] == spent]
        found = ask(*calls_for(machines, jobs), best(), ways())[-2:]
        with self.subTest(machines=machines, jobs=jobs):
            self.assertEqual(found, [[spent, ended, *order], [len(ranks), len(as_little)]])

    def test_many_small_houses(self):
        source = random.Random(21)
        for turn in range(2000):
            self.check(*some_house(source, 5))

    def test_some_greater_houses(self):
        source = random.Random(22)
        for turn in range(60):
            self.check(*some_house(source, 7))

    def test_many_jobs_of_one_step(self):
        source = random.Random(23)
        for turn in range(12):
            machines, jobs = some_house(source, 1)
            jobs = [(source.randint(0, 6), source.randint(0, 20), source.randint(0, 3),
                     [(source.randrange(len(machines)), source.randint(0, 2), source.randint(1, 5))])
                    for number in range(6)]
            self.check(machines, jobs)


class EightJobs(unittest.TestCase):
    # Different froms, kinds and rests, so that few orders leave the machine alike.
    there = [machine(37, (400, 450), (900, 1000), (1500, 1501), (2000, 2300)),
             *[job(start, due, weight, (0, kind, length)) for start, due, weight, kind, length in [
                 (237, 1472, 2, 8, 156), (283, 437, 4, 7, 20), (912, 1923, 5, 8, 191), (256, 2912, 1, 4, 319),
                 (132, 1892, 2, 4, 372), (1027, 2832, 3, 1, 51), (1403, 1319, 4, 1, 313), (1020, 2169, 2, 3, 87)]]]

    def in_time(self, calls):
        begun = time.perf_counter()
        found = ask(*calls)
        self.assertLess(time.perf_counter() - begun, 60)
        return found

    def test_ten_times_in_one_list(self):
        found = self.in_time([*self.there, *[best()] * 10])[9:]
        self.assertEqual(found, [found[0]] * 10)
        self.assertEqual(sorted(found[0][2:]), list(range(8)))

    def test_ten_of_best_and_ways_together(self):
        found = self.in_time([*self.there, *[best(), ways()] * 5])[9:]
        self.assertEqual(found, found[:2] * 5)
        self.assertEqual(found[1][0], 40320)

    def test_all_orders_alike(self):
        there = [machine(0), *[job(0, 0, 1, (0, 0, 1))] * 8]
        self.assertEqual(self.in_time([*there, *[best(), ways()] * 5])[9:],
                         [[36, 36, *range(8)], [40320, 40320]] * 5)

    def test_against_the_times_of_every_order(self):
        orders = list(itertools.permutations(range(8)))
        ranks = []
        for place in range(0, len(orders), 50):
            some = orders[place:place + 50]
            found = ask(*self.there, *[times(*order) for order in some])[9:]
            ranks += [(answer[0], sum(ends_in(answer)), order) for answer, order in zip(found, some)]
        spent, ended, order = min(ranks)
        as_little = [one for one in ranks if one[0] == spent]
        self.assertEqual(ask(*self.there, best(), ways())[9:], [[spent, ended, *order], [40320, len(as_little)]])


if __name__ == "__main__":
    unittest.main()
