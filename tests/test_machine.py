import unittest

from tests.helper import MOST, ask, job, last, machine, placed, times


class Numbers(unittest.TestCase):
    def test_four_machines_have_the_numbers_0_to_3(self):
        self.assertEqual(ask(*[machine(0)] * 4), [[0], [1], [2], [3]])

    def test_the_fifth_is_refused(self):
        self.assertEqual(ask(*[machine(0)] * 6), [[0], [1], [2], [3], [-5], [-5]])

    def test_each_machine_has_its_own_change_and_rests(self):
        rows = placed(
            machine(3), machine(5, (0, 2)), machine(0, (0, 4), (5, 9)), machine(1),
            job(0, 0, 0, (0, 1, 1)), job(0, 0, 0, (1, 1, 1)), job(0, 0, 0, (2, 1, 1)), job(0, 0, 0, (3, 1, 1)),
            times(0, 1, 2, 3),
        )
        self.assertEqual(rows, [(0, 0, 0, 0, 4), (1, 0, 1, 2, 8), (2, 0, 2, 4, 5), (3, 0, 3, 0, 2)])


class Taken(unittest.TestCase):
    def taken(self, one):
        self.assertEqual(ask(one), [[0]])

    def test_least(self):
        self.taken(machine(0))

    def test_a_change_of_1000(self):
        self.taken(machine(1000))

    def test_four_rests(self):
        self.taken(machine(0, (1, 2), (3, 4), (5, 6), (7, 8)))

    def test_a_rest_of_one(self):
        self.taken(machine(0, (0, 1)))

    def test_a_rest_that_ends_at_10000(self):
        self.taken(machine(0, (9999, 10000)))
        self.taken(machine(0, (0, 10000)))

    def test_a_rest_that_begins_when_the_one_before_has_ended(self):
        self.taken(machine(0, (3, 5), (5, 9), (9, 10), (10, 11)))


class OutOfBounds(unittest.TestCase):
    def refused(self, one):
        self.assertEqual(ask(one), [[-1]])
        self.assertEqual(ask(one, machine(0), job(0, 0, 0, (1, 0, 1))), [[-1], [0], [-1]])

    def test_a_change_above_1000(self):
        self.refused(machine(1001))
        self.refused(machine(MOST))

    def test_more_than_four_rests(self):
        self.refused(machine(0, (1, 2), (3, 4), (5, 6), (7, 8), (9, 10)))
        self.refused(machine(0, *[(2 * k, 2 * k + 1) for k in range(10)]))

    def test_an_empty_rest(self):
        self.refused(machine(0, (5, 5)))
        self.refused(machine(0, (0, 0)))
        self.refused(machine(0, (10000, 10000)))

    def test_a_rest_that_ends_before_it_begins(self):
        self.refused(machine(0, (5, 4)))
        self.refused(machine(0, (MOST, 0)))

    def test_a_rest_that_ends_above_10000(self):
        self.refused(machine(0, (0, 10001)))
        self.refused(machine(0, (9999, 10001)))
        self.refused(machine(0, (10000, 10001)))
        self.refused(machine(0, (MOST - 1, MOST)))

    def test_a_rest_that_begins_before_the_one_before_has_ended(self):
        self.refused(machine(0, (3, 5), (4, 9)))
        self.refused(machine(0, (3, 5), (3, 5)))
        self.refused(machine(0, (10, 12), (1, 2)))

    def test_each_reason_at_a_later_rest(self):
        good = [(1, 2), (3, 4), (5, 6)]
        for bad in [(7, 7), (8, 7), (7, 10001), (5, 9), (0, 1)]:
            self.refused(machine(0, *good, bad))

    def test_each_reason_at_an_earlier_rest(self):
        for bad in [(2, 2), (2, 1), (2, 10001)]:
            self.refused(machine(0, bad, (20, 30)))

    def test_ten_rests_of_great_numbers(self):
        self.refused(machine(MOST, *[(MOST, MOST)] * 10))


class Refusals(unittest.TestCase):
    def test_out_of_bounds_counts_ahead_of_no_room(self):
        four = [machine(0)] * 4
        for bad in [machine(1001), machine(0, (5, 5)), machine(0, (0, 10001)), machine(0, (3, 5), (4, 9)),
                    machine(0, (1, 2), (3, 4), (5, 6), (7, 8), (9, 10))]:
            self.assertEqual(last(*four, bad), [-1])
        self.assertEqual(last(*four, machine(1000, (0, 10000))), [-5])

    def test_after_out_of_bounds_the_next_one_has_the_next_number(self):
        self.assertEqual(ask(machine(0), machine(1001), machine(0)), [[0], [-1], [1]])

    def test_after_a_refusal_the_machines_are_as_they_were(self):
        there = [machine(2, (0, 4)), machine(0), machine(0), machine(0), job(0, 0, 1, (0, 1, 3))]
        before = ask(*there, times(0))
        self.assertEqual(before[-1], [9, 1, 0, 0, 0, 4, 9])
        for refused, number in [(machine(1001, (0, 1)), -1), (machine(9, (0, 7)), -5)]:
            after = ask(*there, refused, times(0))
            self.assertEqual(after, before[:-1] + [[number]] + before[-1:])

    def test_after_no_room_there_is_no_fifth_machine(self):
        self.assertEqual(last(*[machine(0)] * 5, job(0, 0, 0, (4, 0, 1))), [-1])


if __name__ == "__main__":
    unittest.main()
