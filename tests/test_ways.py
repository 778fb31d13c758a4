import unittest

from tests.helper import ask, begins, drop, job, last, machine, times, ways


class Orders(unittest.TestCase):
    def orders(self, *sizes):
        found = last(machine(0), *[job(0, 0, 0, *[(0, 0, 1)] * size) for size in sizes], ways())
        # With a weight of 0 nothing costs, so all orders cost as little as the best.
        self.assertEqual(found, [found[0], found[0]])
        return found[0]

    def test_without_jobs(self):
        self.assertEqual(last(ways()), [1, 1])
        self.assertEqual(last(machine(0), ways()), [1, 1])

    def test_one_job(self):
        for size in range(1, 9):
            self.assertEqual(self.orders(size), 1)

    def test_jobs_of_one_step(self):
        self.assertEqual([self.orders(*[1] * many) for many in range(1, 9)], [1, 2, 6, 24, 120, 720, 5040, 40320])

    def test_two_jobs(self):
        self.assertEqual(self.orders(1, 2), 3)
        self.assertEqual(self.orders(2, 1), 3)
        self.assertEqual(self.orders(2, 2), 6)
        self.assertEqual(self.orders(1, 7), 8)
        self.assertEqual(self.orders(3, 5), 56)
        self.assertEqual(self.orders(4, 4), 70)

    def test_several_jobs_of_several_steps(self):
        self.assertEqual(self.orders(2, 2, 2), 90)
        self.assertEqual(self.orders(3, 3, 2), 560)
        self.assertEqual(self.orders(2, 2, 2, 2), 2520)
        self.assertEqual(self.orders(2, 1, 1, 1, 1, 1, 1), 20160)
        self.assertEqual(self.orders(1, 2, 1, 4), 840)


class AsLittle(unittest.TestCase):
    def test_all(self):
        self.assertEqual(last(machine(0), *[job(0, 0, 1, (0, 0, 2))] * 4, ways()), [24, 24])
        there = [machine(0), machine(0), job(0, 0, 1, (0, 0, 2), (0, 0, 3)), job(0, 0, 1, (1, 0, 2))]
        self.assertEqual(last(*there, ways()), [3, 3])

    def test_all_where_nothing_is_late(self):
        self.assertEqual(last(machine(0), *[job(0, 99, 5, (0, 0, length)) for length in [1, 2, 3]], ways()), [6, 6])

    def test_one(self):
        there = [machine(0), *[job(0, 0, weight, (0, 0, 1)) for weight in [1, 4, 2, 3]]]
        self.assertEqual(last(*there, ways()), [24, 1])

    def test_one_of_jobs_of_several_steps(self):
        there = [machine(0), job(0, 2, 1, (0, 0, 1), (0, 0, 1)), job(0, 3, 1, (0, 0, 1))]
        self.assertEqual(last(*there, ways()), [3, 1])

    def test_some_of_jobs_of_several_steps(self):
        # Both first steps must come first, as both machines must be at work from the beginning on.
        there = [machine(0), machine(0), job(0, 6, 1, (0, 0, 1), (1, 0, 5)), job(0, 6, 1, (1, 0, 1), (0, 0, 5))]
        self.assertEqual(last(*there, ways()), [6, 4])

    def test_some(self):
        # Job 1 must be first, the others may come as they like.
        there = [machine(0), job(0, 99, 1, (0, 0, 4)), job(0, 2, 1, (0, 0, 2)), job(0, 99, 1, (0, 0, 5)),
                 job(0, 99, 1, (0, 0, 6))]
        self.assertEqual(last(*there, ways()), [24, 6])

    def test_the_ends_do_not_count(self):
        there = [machine(0), job(0, 0, 2, (0, 0, 4)), job(0, 0, 1, (0, 0, 2))]
        self.assertEqual(last(*there, ways()), [2, 2])

    def test_weight_0(self):
        there = [machine(0), job(0, 0, 0, (0, 0, 3)), job(0, 0, 1, (0, 0, 3)), job(0, 0, 0, (0, 0, 1))]
        self.assertEqual(last(*there, ways()), [6, 2])

    def test_a_change_of_kind(self):
        # Kind 0 first, then both of kind 1: only so one change is enough.
        there = [machine(5), job(0, 8, 1, (0, 1, 1)), job(0, 8, 1, (0, 0, 1)), job(0, 8, 1, (0, 1, 1))]
        self.assertEqual(last(*there, ways()), [6, 2])


class Afterwards(unittest.TestCase):
    def setUp(self):
        self.there = [machine(0), job(0, 0, 1, (0, 0, 2), (0, 0, 1)), job(0, 0, 2, (0, 0, 2))]

    def test_nothing_has_changed(self):
        found = ask(*self.there, times(0, 1, 0), ways(), times(0, 1, 0), ways())
        self.assertEqual(found[5:], found[3:5])
        self.assertEqual(found[4], [3, 1])

    def test_after_drop(self):
        found = ask(*self.there, ways(), drop(0), ways(), drop(0), ways())[3:]
        self.assertEqual(found, [[3, 1], [1], [1, 1], [0], [1, 1]])

    def test_after_begins(self):
        self.assertEqual(last(*self.there, ways(), begins(), ways()), [1, 1])


if __name__ == "__main__":
    unittest.main()
