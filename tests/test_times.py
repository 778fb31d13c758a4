import random
import unittest

from tests.helper import (MOST, ask, calls_for, cost_by_the_words, drop, job, last, machine, one_order, placed,
                          rows_by_the_words, some_house, times)


class Shape(unittest.TestCase):
    def test_without_jobs(self):
        self.assertEqual(last(times()), [0, 0])
        self.assertEqual(last(machine(5, (0, 10)), times()), [0, 0])

    def test_one_step(self):
        self.assertEqual(last(machine(0), job(0, 0, 1, (0, 0, 4)), times(0)), [4, 1, 0, 0, 0, 0, 4])

    def test_the_steps_stand_as_they_are_put(self):
        rows = placed(machine(0), machine(0), job(0, 0, 0, (0, 0, 5), (1, 0, 1)), job(0, 0, 0, (1, 0, 2), (0, 0, 1)),
                      times(0, 1, 1, 0))
        self.assertEqual(rows, [(0, 0, 0, 0, 5), (1, 0, 1, 0, 2), (1, 1, 0, 5, 6), (0, 1, 1, 5, 6)])

    def test_another_order_gives_other_times(self):
        there = [machine(0), job(0, 0, 0, (0, 0, 2)), job(0, 0, 0, (0, 0, 3))]
        self.assertEqual(placed(*there, times(0, 1)), [(0, 0, 0, 0, 2), (1, 0, 0, 2, 5)])
        self.assertEqual(placed(*there, times(1, 0)), [(1, 0, 0, 0, 3), (0, 0, 0, 3, 5)])

    def test_eight_steps(self):
        rows = placed(machine(0), job(0, 0, 0, *[(0, 0, 1)] * 8), times(*[0] * 8))
        self.assertEqual(rows, [(0, k, 0, k, k + 1) for k in range(8)])

    def test_it_changes_nothing(self):
        there = [machine(3), job(0, 0, 1, (0, 1, 2)), job(0, 0, 1, (0, 2, 2)), times(0, 1)]
        found = ask(*there, times(0, 1), times(1, 0), times(0, 1))
        self.assertEqual(found[4], found[3])
        self.assertEqual(found[6], found[3])


class Waiting(unittest.TestCase):
    def test_for_the_from_of_its_job(self):
        self.assertEqual(placed(machine(0), job(6, 0, 0, (0, 0, 2)), times(0)), [(0, 0, 0, 6, 8)])
        self.assertEqual(placed(machine(0), job(10000, 0, 0, (0, 0, 1000)), times(0)), [(0, 0, 0, 10000, 11000)])

    def test_for_its_job(self):
        rows = placed(machine(0), machine(0), job(0, 0, 0, (0, 0, 4), (1, 0, 2)), times(0, 0))
        self.assertEqual(rows, [(0, 0, 0, 0, 4), (0, 1, 1, 4, 6)])

    def test_for_its_machine(self):
        rows = placed(machine(0), job(0, 0, 0, (0, 0, 4)), job(1, 0, 0, (0, 0, 2)), times(0, 1))
        self.assertEqual(rows, [(0, 0, 0, 0, 4), (1, 0, 0, 4, 6)])

    def test_for_the_later_of_its_job_and_its_machine(self):
        there = [machine(0), machine(0), job(0, 0, 0, (0, 0, 3), (1, 0, 1))]
        self.assertEqual(placed(*there, job(0, 0, 0, (1, 0, 7)), times(1, 0, 0))[-1], (0, 1, 1, 7, 8))
        self.assertEqual(placed(*there, job(0, 0, 0, (1, 0, 2)), times(1, 0, 0))[-1], (0, 1, 1, 3, 4))

    def test_a_step_put_later_never_goes_into_a_gap_ahead(self):
        rows = placed(machine(0), job(9, 0, 0, (0, 0, 1)), job(0, 0, 0, (0, 0, 1)), times(0, 1))
        self.assertEqual(rows, [(0, 0, 0, 9, 10), (1, 0, 0, 10, 11)])

    def test_machines_do_not_wait_for_each_other(self):
        rows = placed(machine(0), machine(0), job(0, 0, 0, (0, 0, 4)), job(0, 0, 0, (1, 0, 2)), times(0, 1))
        self.assertEqual(rows, [(0, 0, 0, 0, 4), (1, 0, 1, 0, 2)])


class Change(unittest.TestCase):
    def test_of_a_first_step_whose_kind_is_not_0(self):
        for kind in [1, 9]:
            self.assertEqual(placed(machine(7), job(2, 0, 0, (0, kind, 3)), times(0)), [(0, 0, 0, 2, 12)])

    def test_none_of_a_first_step_whose_kind_is_0(self):
        self.assertEqual(placed(machine(7), job(2, 0, 0, (0, 0, 3)), times(0)), [(0, 0, 0, 2, 5)])

    def test_between_kinds_and_none_where_they_are_alike(self):
        rows = placed(machine(10), job(0, 0, 0, (0, 1, 1), (0, 1, 1), (0, 2, 1), (0, 0, 1), (0, 0, 1), (0, 1, 1)),
                      times(*[0] * 6))
        self.assertEqual([(begin, stop) for job_, which, machine_, begin, stop in rows],
                         [(0, 11), (11, 12), (12, 23), (23, 34), (34, 35), (35, 46)])

    def test_the_step_before_is_that_of_the_machine_not_of_the_job(self):
        rows = placed(machine(10), machine(20), job(0, 0, 0, (0, 1, 1), (1, 1, 1)), job(0, 0, 0, (0, 2, 1)),
                      times(0, 1, 0))
        self.assertEqual(rows, [(0, 0, 0, 0, 11), (1, 0, 0, 11, 22), (0, 1, 1, 11, 32)])

    def test_a_kind_lasts_from_one_job_to_another(self):
        rows = placed(machine(10), job(0, 0, 0, (0, 3, 1)), job(50, 0, 0, (0, 3, 1)), times(0, 1))
        self.assertEqual(rows, [(0, 0, 0, 0, 11), (1, 0, 0, 50, 51)])

    def test_it_belongs_to_the_step_and_does_not_go_ahead_of_its_job(self):
        rows = placed(machine(4), job(10, 0, 0, (0, 1, 2)), times(0))
        self.assertEqual(rows, [(0, 0, 0, 10, 16)])

    def test_it_lasts_over_a_rest(self):
        rows = placed(machine(4, (5, 9)), job(0, 0, 0, (0, 1, 1), (0, 1, 1)), times(0, 0))
        self.assertEqual(rows, [(0, 0, 0, 0, 5), (0, 1, 0, 9, 10)])

    def test_it_touches_no_rest_either(self):
        self.assertEqual(placed(machine(4, (2, 3)), job(0, 0, 0, (0, 1, 1)), times(0)), [(0, 0, 0, 3, 8)])
        self.assertEqual(placed(machine(4, (3, 4)), job(0, 0, 0, (0, 1, 1)), times(0)), [(0, 0, 0, 4, 9)])
        self.assertEqual(placed(machine(4, (5, 6)), job(0, 0, 0, (0, 1, 1)), times(0)), [(0, 0, 0, 0, 5)])

    def test_a_change_of_1000(self):
        self.assertEqual(placed(machine(1000), job(0, 0, 0, (0, 9, 1000)), times(0)), [(0, 0, 0, 0, 2000)])


class Rests(unittest.TestCase):
    def span(self, rests, start, length):
        row = placed(machine(0, *rests), job(start, 0, 0, (0, 0, length)), times(0))[0]
        return row[3:]

    def test_ready_within_a_rest(self):
        self.assertEqual(self.span([(3, 8)], 3, 2), (8, 10))
        self.assertEqual(self.span([(3, 8)], 5, 2), (8, 10))
        self.assertEqual(self.span([(3, 8)], 7, 2), (8, 10))

    def test_ready_when_a_rest_ends(self):
        self.assertEqual(self.span([(3, 8)], 8, 2), (8, 10))

    def test_ends_just_when_a_rest_begins(self):
        self.assertEqual(self.span([(3, 8)], 0, 3), (0, 3))
        self.assertEqual(self.span([(3, 8)], 2, 1), (2, 3))

    def test_would_end_within_a_rest(self):
        self.assertEqual(self.span([(3, 8)], 0, 4), (8, 12))
        self.assertEqual(self.span([(3, 8)], 2, 2), (8, 10))

    def test_would_last_over_a_whole_rest(self):
        self.assertEqual(self.span([(3, 4)], 0, 10), (4, 14))

    def test_fits_exactly_between_two_rests(self):
        self.assertEqual(self.span([(0, 4), (9, 12)], 0, 5), (4, 9))
        self.assertEqual(self.span([(2, 4), (9, 12)], 1, 5), (4, 9))

    def test_is_one_too_long_for_between_two_rests(self):
        self.assertEqual(self.span([(0, 4), (9, 12)], 0, 6), (12, 18))

    def test_a_row_of_rests_with_gaps_too_short(self):
        rests = [(2, 4), (6, 8), (11, 12), (15, 20)]
        self.assertEqual(self.span(rests, 0, 2), (0, 2))
        self.assertEqual(self.span(rests, 1, 2), (4, 6))
        self.assertEqual(self.span(rests, 0, 3), (8, 11))
        self.assertEqual(self.span(rests, 9, 3), (12, 15))
        self.assertEqual(self.span(rests, 0, 4), (20, 24))

    def test_rests_without_a_gap(self):
        self.assertEqual(self.span([(1, 3), (3, 5), (5, 7), (7, 9)], 0, 2), (9, 11))
        self.assertEqual(self.span([(1, 3), (3, 5), (5, 7), (7, 9)], 0, 1), (0, 1))

    def test_a_rest_that_has_passed(self):
        self.assertEqual(self.span([(3, 8)], 20, 100), (20, 120))

    def test_to_the_last_rest_there_may_be(self):
        self.assertEqual(self.span([(0, 10000)], 0, 1000), (10000, 11000))

    def test_only_the_rests_of_its_own_machine(self):
        rows = placed(machine(0, (0, 9)), machine(0), job(0, 0, 0, (1, 0, 3)), times(0))
        self.assertEqual(rows, [(0, 0, 1, 0, 3)])

    def test_waiting_for_a_rest_delays_job_and_machine(self):
        rows = placed(machine(0, (1, 5)), machine(0), job(0, 0, 0, (0, 0, 2), (1, 0, 1)), job(0, 0, 0, (0, 0, 1)),
                      times(0, 1, 0))
        self.assertEqual(rows, [(0, 0, 0, 5, 7), (1, 0, 0, 7, 8), (0, 1, 1, 7, 8)])


class Cost(unittest.TestCase):
    def cost(self, due, weight, length=10):
        return last(machine(0), job(0, due, weight, (0, 0, length)), times(0))[0]

    def test_late(self):
        self.assertEqual(self.cost(7, 1), 3)
        self.assertEqual(self.cost(9, 1), 1)

    def test_not_late(self):
        self.assertEqual(self.cost(10, 1000), 0)
        self.assertEqual(self.cost(11, 1000), 0)
        self.assertEqual(self.cost(10000, 1000), 0)

    def test_weight(self):
        self.assertEqual(self.cost(7, 0), 0)
        self.assertEqual(self.cost(7, 5), 15)
        self.assertEqual(self.cost(0, 1000), 10000)

    def test_of_several_jobs_together(self):
        there = [machine(0), job(0, 3, 2, (0, 0, 4)), job(0, 5, 7, (0, 0, 4)), job(0, 50, 100, (0, 0, 4))]
        self.assertEqual(last(*there, times(0, 1, 2))[0], 2 * 1 + 7 * 3)
        self.assertEqual(last(*there, times(1, 0, 2))[0], 2 * 5)
        self.assertEqual(last(*there, times(2, 1, 0))[0], 2 * 9 + 7 * 3)

    def test_a_job_ends_with_its_last_step(self):
        there = [machine(0), machine(0), job(0, 5, 1, (0, 0, 4), (1, 0, 4))]
        self.assertEqual(last(*there, times(0, 0))[0], 3)

    def test_one_job_being_early_does_not_help_another(self):
        there = [machine(0), machine(0), job(0, 100, 10, (0, 0, 1)), job(0, 0, 10, (1, 0, 1))]
        self.assertEqual(last(*there, times(0, 1))[0], 10)

    def test_a_great_cost(self):
        late = job(10000, 0, 1000, *[(0, kind, 1000) for kind in [1, 2, 1, 2, 1, 2, 1, 2]])
        self.assertEqual(last(machine(1000), late, times(*[0] * 8))[0], 1000 * 26000)


class NoOrder(unittest.TestCase):
    def setUp(self):
        self.there = [machine(0), job(0, 0, 1, (0, 0, 2), (0, 0, 3)), job(0, 0, 1, (0, 0, 4))]

    def refused(self, *order):
        self.assertEqual(last(*self.there, times(*order)), [-6])

    def test_every_order_there_is(self):
        for order in [(0, 0, 1), (0, 1, 0), (1, 0, 0)]:
            self.assertEqual(last(*self.there, times(*order))[1], 3)

    def test_too_short(self):
        for order in [(), (0,), (1,), (0, 0), (0, 1), (1, 0)]:
            self.refused(*order)

    def test_too_long(self):
        for order in [(0, 0, 1, 0), (0, 0, 1, 1), (0, 1, 0, 2), (0, 0, 1, 0, 0, 1)]:
            self.refused(*order)

    def test_a_job_that_there_is_not(self):
        for number in [2, 3, MOST]:
            self.refused(0, 0, number)
            self.refused(number, 0, 1)
            self.refused(0, number, 1)
            self.refused(0, 0, 1, number)

    def test_one_too_often_and_another_too_seldom(self):
        for order in [(0, 0, 0), (0, 1, 1), (1, 1, 0), (1, 1, 1)]:
            self.refused(*order)

    def test_twenty_numbers(self):
        self.refused(*[0] * 20)
        self.refused(*[MOST] * 20)
        self.refused(*[0, 1] * 10)
        self.refused(0, 0, 1, *[MOST] * 17)

    def test_without_jobs_only_the_one_of_no_numbers(self):
        for order in [(0,), (MOST,), (0,) * 20]:
            self.assertEqual(last(machine(0), times(*order)), [-6])
        self.assertEqual(last(machine(0), times()), [0, 0])

    def test_when_all_jobs_are_dropped(self):
        self.assertEqual(last(*self.there, drop(0), drop(0), times()), [0, 0])
        self.assertEqual(last(*self.there, drop(0), drop(0), times(0)), [-6])

    def test_after_a_refusal_nothing_has_changed(self):
        before = last(*self.there, times(0, 1, 0))
        self.assertEqual(ask(*self.there, times(0, 1), times(0, 1, 0))[3:], [[-6], before])


class AgainstTheWords(unittest.TestCase):
    def test_many_houses(self):
        source = random.Random(20)
        for turn in range(1500):
            machines, jobs = some_house(source, 8)
            order = one_order(jobs)
            source.shuffle(order)
            rows = rows_by_the_words(machines, jobs, order)
            with self.subTest(machines=machines, jobs=jobs, order=order):
                self.assertEqual(last(*calls_for(machines, jobs), times(*order)),
                                 [cost_by_the_words(jobs, rows), len(rows), *[value for row in rows for value in row]])


if __name__ == "__main__":
    unittest.main()
