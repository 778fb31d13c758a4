import random
import unittest

from tests.helper import (MOST, ask, calls_for, chain, drop, ends_by_the_words, job, last, machine, one_order,
                          rows_by_the_words, rows_in, some_house, times, why)


class Shape(unittest.TestCase):
    def test_the_answer_number_by_number(self):
        there = [machine(0), machine(0), job(1, 4, 1, (0, 0, 3), (1, 0, 2))]
        self.assertEqual(last(*there, why(0, 0, 0)), [2, 2, 0, 1, 0, 0, 0, 2])

    def test_how_late(self):
        for due, expected in [(0, 7), (6, 1), (7, 0), (8, 0), (10000, 0)]:
            self.assertEqual(last(machine(0), job(3, due, 1, (0, 0, 4)), why(0, 0)), [expected, 1, 0, 0, 2])

    def test_how_late_is_without_the_weight(self):
        for weight in [0, 1, 1000]:
            self.assertEqual(last(machine(0), job(3, 5, weight, (0, 0, 4)), why(0, 0))[0], 2)

    def test_how_late_is_that_of_the_job_alone(self):
        there = [machine(0), job(0, 1, 1, (0, 0, 4)), job(0, 5, 1, (0, 0, 3)), job(0, 90, 1, (0, 0, 1))]
        self.assertEqual([last(*there, why(number, 0, 1, 2))[0] for number in range(3)], [3, 2, 0])


class Rest(unittest.TestCase):
    def test_a_first_step_ready_within_a_rest(self):
        there = [machine(0, (3, 8))]
        for start in [3, 5, 7]:
            self.assertEqual(chain(*there, job(start, 0, 0, (0, 0, 2)), why(0, 0)), [(0, 0, 3)])

    def test_a_first_step_that_does_not_fit_ahead_of_a_rest(self):
        self.assertEqual(chain(machine(0, (3, 8)), job(2, 0, 0, (0, 0, 2)), why(0, 0)), [(0, 0, 3)])
        self.assertEqual(chain(machine(0, (3, 8)), job(2, 0, 0, (0, 0, 1)), why(0, 0)), [(0, 0, 2)])

    def test_a_first_step_from_0_on(self):
        self.assertEqual(chain(machine(0, (0, 1)), job(0, 0, 0, (0, 0, 2)), why(0, 0)), [(0, 0, 3)])

    def test_a_step_that_is_not_the_first(self):
        there = [machine(0), machine(0, (2, 6)), job(0, 0, 0, (0, 0, 4), (1, 0, 2))]
        self.assertEqual(chain(*there, why(0, 0, 0)), [(0, 1, 3)])

    def test_ready_when_the_machine_was(self):
        there = [machine(0, (5, 9)), job(0, 0, 0, (0, 0, 4)), job(1, 0, 0, (0, 0, 2))]
        self.assertEqual(chain(*there, why(1, 0, 1)), [(1, 0, 3)])

    def test_it_ends_the_chain_of_those_behind_it(self):
        there = [machine(0, (2, 6)), machine(0), job(0, 0, 0, (0, 0, 4), (1, 0, 2)), job(0, 0, 0, (1, 0, 1))]
        self.assertEqual(chain(*there, why(1, 0, 0, 1)), [(1, 0, 1), (0, 1, 0), (0, 0, 3)])

    def test_a_rest_that_ends_just_when_it_is_ready_is_no_cause(self):
        self.assertEqual(chain(machine(0, (3, 8)), job(8, 0, 0, (0, 0, 2)), why(0, 0)), [(0, 0, 2)])
        there = [machine(0), machine(0, (2, 4)), job(0, 0, 0, (0, 0, 4), (1, 0, 2))]
        self.assertEqual(chain(*there, why(0, 0, 0)), [(0, 1, 0), (0, 0, 2)])

    def test_the_change_is_no_cause_but_lasts(self):
        self.assertEqual(chain(machine(9), job(4, 0, 0, (0, 5, 2)), why(0, 0)), [(0, 0, 2)])
        self.assertEqual(chain(machine(9, (14, 20)), job(4, 0, 0, (0, 5, 2)), why(0, 0)), [(0, 0, 3)])
        self.assertEqual(chain(machine(9, (15, 20)), job(4, 0, 0, (0, 5, 2)), why(0, 0)), [(0, 0, 2)])


class From(unittest.TestCase):
    def test_the_first_step_at_its_from(self):
        for start in [0, 5, 10000]:
            self.assertEqual(chain(machine(0), job(start, 0, 0, (0, 0, 4)), why(0, 0)), [(0, 0, 2)])

    def test_just_when_the_machine_is_free(self):
        there = [machine(0), job(0, 0, 0, (0, 0, 4)), job(4, 0, 0, (0, 0, 2))]
        self.assertEqual(chain(*there, why(1, 0, 1)), [(1, 0, 2)])

    def test_when_the_machine_has_long_been_free(self):
        there = [machine(0), job(0, 0, 0, (0, 0, 4)), job(5, 0, 0, (0, 0, 2))]
        self.assertEqual(chain(*there, why(1, 0, 1)), [(1, 0, 2)])

    def test_the_from_of_another_job_is_no_cause(self):
        there = [machine(0), job(0, 0, 0, (0, 0, 4), (0, 0, 1)), job(4, 0, 0, (0, 0, 2))]
        self.assertEqual(chain(*there, why(0, 0, 0, 1)), [(0, 1, 0), (0, 0, 2)])


class Own(unittest.TestCase):
    def test_by_itself(self):
        there = [machine(0), machine(0), job(2, 0, 0, (0, 0, 4), (1, 0, 2))]
        self.assertEqual(chain(*there, why(0, 0, 0)), [(0, 1, 0), (0, 0, 2)])

    def test_on_the_same_machine(self):
        there = [machine(0), job(2, 0, 0, (0, 0, 4), (0, 0, 2), (0, 0, 1))]
        self.assertEqual(chain(*there, why(0, 0, 0, 0)), [(0, 2, 0), (0, 1, 0), (0, 0, 2)])

    def test_just_when_the_machine_has_stopped_too(self):
        there = [machine(0), machine(0), job(0, 0, 0, (0, 0, 4), (1, 0, 2)), job(1, 0, 0, (1, 0, 3))]
        for order in [(0, 1, 0), (1, 0, 0)]:
            self.assertEqual(chain(*there, why(0, *order)), [(0, 1, 0), (0, 0, 2)])

    def test_eight_steps(self):
        there = [machine(0), machine(0), job(0, 0, 0, *[(0, 0, 1), (1, 0, 1)] * 4)]
        self.assertEqual(chain(*there, why(0, *[0] * 8)), [(0, which, 0) for which in range(7, 0, -1)] + [(0, 0, 2)])


class OnTheMachine(unittest.TestCase):
    def test_by_itself(self):
        there = [machine(0), job(0, 0, 0, (0, 0, 4)), job(1, 0, 0, (0, 0, 2))]
        self.assertEqual(chain(*there, why(1, 0, 1)), [(1, 0, 1), (0, 0, 2)])
        self.assertEqual(chain(*there, why(0, 1, 0)), [(0, 0, 1), (1, 0, 2)])

    def test_one_time_earlier_than_its_from_would_do(self):
        there = [machine(0), job(0, 0, 0, (0, 0, 4)), job(3, 0, 0, (0, 0, 2))]
        self.assertEqual(chain(*there, why(1, 0, 1)), [(1, 0, 1), (0, 0, 2)])

    def test_a_step_that_is_not_the_first(self):
        there = [machine(0), machine(0), job(0, 0, 0, (0, 0, 4), (1, 0, 2)), job(1, 0, 0, (1, 0, 4))]
        self.assertEqual(chain(*there, why(0, 0, 1, 0)), [(0, 1, 1), (1, 0, 2)])

    def test_the_one_just_before_not_the_first_one_there(self):
        there = [machine(0), *[job(0, 0, 0, (0, 0, 2))] * 4]
        self.assertEqual(chain(*there, why(1, 2, 3, 1, 0)), [(1, 0, 1), (3, 0, 1), (2, 0, 2)])
        self.assertEqual(chain(*there, why(0, 2, 3, 1, 0)), [(0, 0, 1), (1, 0, 1), (3, 0, 1), (2, 0, 2)])

    def test_eight_jobs(self):
        there = [machine(0), *[job(0, 0, 0, (0, 0, 1))] * 8]
        self.assertEqual(chain(*there, why(7, *range(8))), [(number, 0, 1) for number in range(7, 0, -1)] + [(0, 0, 2)])


class Chain(unittest.TestCase):
    def test_over_several_jobs_and_machines(self):
        there = [machine(0), machine(0), machine(0), job(1, 0, 0, (0, 0, 5), (1, 0, 2)),
                 job(0, 0, 0, (1, 0, 1), (1, 0, 4), (2, 0, 3)), job(0, 0, 0, (2, 0, 2), (2, 0, 6))]
        order = (0, 2, 1, 0, 1, 1, 2)
        rows = [(0, 0, 0, 1, 6), (2, 0, 2, 0, 2), (1, 0, 1, 0, 1), (0, 1, 1, 6, 8), (1, 1, 1, 8, 12), (1, 2, 2, 12, 15),
                (2, 1, 2, 15, 21)]
        self.assertEqual(last(*there, times(*order))[2:], [value for row in rows for value in row])
        self.assertEqual(chain(*there, why(2, *order)), [(2, 1, 1), (1, 2, 0), (1, 1, 1), (0, 1, 0), (0, 0, 2)])
        self.assertEqual(chain(*there, why(1, *order)), [(1, 2, 0), (1, 1, 1), (0, 1, 0), (0, 0, 2)])
        self.assertEqual(chain(*there, why(0, *order)), [(0, 1, 0), (0, 0, 2)])

    def test_that_ends_at_a_rest(self):
        there = [machine(0, (0, 3)), machine(2), job(0, 0, 0, (0, 0, 5), (1, 1, 2)), job(0, 0, 0, (1, 0, 1), (0, 0, 2))]
        self.assertEqual(chain(*there, why(1, 1, 0, 0, 1)), [(1, 1, 1), (0, 0, 3)])
        self.assertEqual(chain(*there, why(0, 1, 0, 0, 1)), [(0, 1, 0), (0, 0, 3)])

    def test_of_a_job_whose_last_step_is_put_early(self):
        there = [machine(0), job(0, 0, 0, (0, 0, 3)), job(0, 0, 0, (0, 0, 2), (0, 0, 2))]
        self.assertEqual(chain(*there, why(0, 1, 0, 1)), [(0, 0, 1), (1, 0, 2)])

    def test_of_a_job_that_is_not_late(self):
        there = [machine(0), job(0, 0, 9, (0, 0, 4)), job(0, 50, 9, (0, 0, 2))]
        self.assertEqual(last(*there, why(1, 0, 1)), [0, 2, 1, 0, 1, 0, 0, 2])

    def test_each_step_stops_just_when_the_one_it_kept_waiting_begins(self):
        for machines, jobs, order in some_houses(25, 200):
            asked = [why(number, *order) for number in range(len(jobs))]
            found = ask(*calls_for(machines, jobs), times(*order), *asked)
            spans = {row[:2]: row[3:] for row in rows_in(found[len(machines) + len(jobs)], 5)}
            for answer in found[-len(jobs):]:
                keys = [row[:2] for row in rows_in(answer, 3)]
                for later, earlier in zip(keys, keys[1:]):
                    self.assertEqual(spans[later][0], spans[earlier][1])


class Refused(unittest.TestCase):
    def setUp(self):
        self.there = [machine(0), job(0, 0, 1, (0, 0, 2), (0, 0, 3)), job(0, 0, 1, (0, 0, 4))]

    def test_no_order(self):
        for order in [(), (0, 0), (0, 1), (0, 0, 1, 1), (0, 1, 1), (0, 0, 0), (0, 0, 2), (0, 0, MOST), (0,) * 19]:
            for number in [0, 1]:
                self.assertEqual(last(*self.there, why(number, *order)), [-6])

    def test_no_such_job(self):
        for number in [2, 3, 8, MOST]:
            self.assertEqual(last(*self.there, why(number, 0, 1, 0)), [-2])

    def test_both(self):
        for number in [2, MOST]:
            for order in [(), (0, 0), (0, 0, 2), (MOST,) * 20]:
                self.assertEqual(last(*self.there, why(number, *order)), [-6])

    def test_without_jobs(self):
        self.assertEqual(last(why(0)), [-2])
        self.assertEqual(last(machine(0), why(MOST)), [-2])
        self.assertEqual(last(machine(0), why(0, 0)), [-6])

    def test_a_job_that_was_dropped(self):
        self.assertEqual(last(*self.there, drop(1), why(1, 0, 0)), [-2])
        self.assertEqual(last(*self.there, drop(0), why(0, 0)), [4, 1, 0, 0, 2])


class Afterwards(unittest.TestCase):
    def test_nothing_has_changed(self):
        there = [machine(1, (4, 6)), job(0, 3, 1, (0, 0, 2), (0, 1, 3)), job(0, 5, 2, (0, 2, 4))]
        before = last(*there, times(0, 1, 0))
        for one in [why(0, 0, 1, 0), why(1, 1, 0, 0), why(0, 0), why(2, 0, 0, 1), why(2)]:
            self.assertEqual(last(*there, one, times(0, 1, 0)), before)


def some_houses(seed, many):
    source = random.Random(seed)
    for turn in range(many):
        machines, jobs = some_house(source, 8)
        order = one_order(jobs)
        source.shuffle(order)
        yield machines, jobs, order


class AgainstTheWords(unittest.TestCase):
    def expected(self, jobs, rows, number):
        due = jobs[number][1]
        at = max(k for k, row in enumerate(rows) if row[0] == number)
        links = []
        while at is not None:
            own, which, on, begin, stop = rows[at]
            same_job = [k for k in range(at) if rows[k][0] == own]
            same_machine = [k for k in range(at) if rows[k][2] == on]
            stops = [rows[k][4] for k in same_job + same_machine] + [jobs[own][0]]
            if max(stops) < begin:
                links.append((own, which, 3))
                at = None
            elif not same_job and begin == jobs[own][0]:
                links.append((own, which, 2))
                at = None
            elif same_job and begin == rows[same_job[-1]][4]:
                links.append((own, which, 0))
                at = same_job[-1]
            else:
                links.append((own, which, 1))
                at = same_machine[-1]
        end = ends_by_the_words(jobs, rows)[number]
        return [end - due if end > due else 0, len(links), *[value for link in links for value in link]]

    def test_many_houses(self):
        causes = [0, 0, 0, 0]
        for machines, jobs, order in some_houses(26, 1000):
            rows = rows_by_the_words(machines, jobs, order)
            found = ask(*calls_for(machines, jobs), *[why(number, *order) for number in range(len(jobs))])[-len(jobs):]
            with self.subTest(machines=machines, jobs=jobs, order=order):
                self.assertEqual(found, [self.expected(jobs, rows, number) for number in range(len(jobs))])
            for answer in found:
                for row in rows_in(answer, 3):
                    causes[row[2]] += 1
        self.assertGreater(min(causes), 200)


if __name__ == "__main__":
    unittest.main()
