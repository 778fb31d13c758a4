import contextlib
import io
import unittest

import stepjobs.house
from stepjobs.house import answers
from tests.helper import begins, drop, job, joined, machine, times


class Written(unittest.TestCase):
    """The lists as the document tells them, number by number."""

    def test_one_call(self):
        self.assertEqual(answers([0, 0, 0]), [1, 0])
        self.assertEqual(answers([1, 1, 5, 0]), [1, 0])
        self.assertEqual(answers([1, 5, 5, 1, 2, 3, 4, 0]), [1, 0])
        self.assertEqual(answers([2, 6, 0, 0, 0, 0, 0, 1, 0]), [1, -1])
        self.assertEqual(answers([2, 3, 0, 0, 0, 0]), [1, -1])
        self.assertEqual(answers([3, 1, 0, 0]), [1, -2])
        self.assertEqual(answers([4, 0, 0]), [2, 0, 0])
        self.assertEqual(answers([4, 1, 0, 0]), [1, -6])

    def test_several_calls_in_one_list(self):
        calls = [0, 0, 0,
                 1, 3, 2, 4, 6, 0,
                 2, 9, 1, 5, 10, 0, 0, 3, 0, 7, 1, 0,
                 4, 2, 0, 0, 0,
                 3, 1, 0, 0,
                 4, 2, 0, 0, 0]
        self.assertEqual(answers(calls), [1, 0,
                                          1, 0,
                                          1, 0,
                                          12, 40, 2, 0, 0, 0, 1, 4, 0, 1, 0, 6, 9,
                                          1, 0,
                                          1, -6])

    def test_sixty_calls(self):
        self.assertEqual(answers([0, 0, 0] * 60), [1, 0] * 60)

    def test_the_longest_calls(self):
        rests = [1, 21, 0] + [4294967295] * 20 + [0]
        steps = [2, 39, 0, 0, 0] + [4294967295] * 36 + [0]
        order = [4, 20] + [4294967295] * 20 + [0]
        self.assertEqual(answers(rests * 20 + steps * 20 + order * 20), [1, -1] * 40 + [1, -6] * 20)
        self.assertEqual(answers(steps * 60), [1, -1] * 60)

    def test_module_and_name(self):
        self.assertIs(stepjobs.house.answers, answers)


class Kept(unittest.TestCase):
    def setUp(self):
        self.calls = joined([
            machine(3, (2, 5), (5, 9)), machine(0), machine(1001), job(1, 4, 2, (0, 1, 2), (1, 0, 3)),
            job(0, 0, 1, (1, 2, 4)), job(0, 0, 0), times(1, 0, 0), times(0), drop(0), drop(9), times(0), begins(),
            times(),
        ])

    def test_the_list_is_as_it_was_afterwards(self):
        before = list(self.calls)
        answers(self.calls)
        self.assertEqual(self.calls, before)

    def test_the_list_is_not_changed_for_a_while_either(self):
        class Watched(list):
            def refuse(self, *given):
                raise AssertionError("the list was changed")

            append = extend = insert = pop = remove = clear = sort = reverse = refuse
            __setitem__ = __delitem__ = __iadd__ = __imul__ = refuse

        self.assertEqual(answers(Watched(self.calls)), answers(self.calls))

    def test_one_time_does_not_know_of_the_other(self):
        first = answers(self.calls)
        self.assertEqual(answers(self.calls), first)
        answers(joined([machine(0)] * 4 + [job(0, 0, 0, *[(0, 0, 1)] * 8)]))
        self.assertEqual(answers(joined([drop(0), times(), machine(0), job(0, 0, 0, (0, 0, 1))])),
                         [1, -2, 2, 0, 0, 1, 0, 1, 0])
        self.assertEqual(answers(self.calls), first)

    def test_changing_an_answer_does_not_reach_the_next(self):
        first = answers(self.calls)
        kept = list(first)
        first.clear()
        self.assertEqual(answers(self.calls), kept)

    def test_the_answers_are_a_new_list_of_whole_numbers(self):
        found = answers(self.calls)
        self.assertIs(found.__class__, list)
        self.assertIsNot(found, self.calls)
        self.assertEqual({number.__class__ for number in found}, {int})

    def test_it_prints_nothing(self):
        told = io.StringIO()
        with contextlib.redirect_stdout(told), contextlib.redirect_stderr(told):
            answers(self.calls)
        self.assertEqual(told.getvalue(), "")


if __name__ == "__main__":
    unittest.main()
