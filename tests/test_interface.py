import contextlib
import io
import unittest

import stepjobs.house
from stepjobs.house import answers
from tests.helper import apart, ask, begins, best, drop, job, joined, last, machine, slack, times, ways, why


class Written(unittest.TestCase):
    """The lists as the document tells them, number by number."""

    def test_one_call(self):
        self.assertEqual(answers([0, 0, 0]), [1, 0])
        self.assertEqual(answers([1, 1, 5, 0]), [1, 0])
        self.assertEqual(answers([1, 5, 5, 1, 2, 3, 4, 0]), [1, 0])
        self.assertEqual(answers([2, 6, 0, 0, 0, 0, 0, 1, 0]), [1, -1])
        self.assertEqual(answers([2, 3, 0, 0, 0, 0]), [1, -1])
        self.assertEqual(answers([3, 1, 0, 0]), [1, -2])
        self.assertEqual(answers([4, 0, 0]), [2, 0, 0])
        self.assertEqual(answers([4, 1, 0, 0]), [1, -6])
        self.assertEqual(answers([5, 0, 0]), [2, 0, 0])
        self.assertEqual(answers([6, 0, 0]), [2, 1, 1])
        self.assertEqual(answers([7, 1, 0, 0]), [1, -2])
        self.assertEqual(answers([7, 2, 0, 0, 0]), [1, -6])
        self.assertEqual(answers([8, 2, 0, 0, 0]), [1, -2])
        self.assertEqual(answers([8, 3, 0, 0, 0, 0]), [1, -2])

    def test_several_calls_in_one_list(self):
        calls = [0, 0, 0,
                 1, 3, 2, 4, 6, 0,
                 2, 9, 1, 5, 10, 0, 0, 3, 0, 7, 1, 0,
                 4, 2, 0, 0, 0,
                 3, 1, 0, 0,
                 4, 2, 0, 0, 0]
        self.assertEqual(answers(calls), [1, 0,
                                          1, 0,
                                          1, 0,
                                          12, 40, 2, 0, 0, 0, 1, 4, 0, 1, 0, 6, 9,
                                          1, 0,
                                          1, -6])

    def test_all_nine_calls_in_one_list(self):
        calls = [1, 1, 2, 0,
                 2, 6, 0, 9, 1, 0, 1, 4, 0,
                 2, 9, 0, 5, 2, 0, 0, 1, 0, 0, 4, 0,
                 4, 3, 1, 1, 0, 0,
                 5, 0, 0,
                 6, 0, 0,
                 7, 4, 0, 1, 1, 0, 0,
                 8, 5, 1, 0, 1, 1, 0, 0,
                 8, 5, 0, 0, 0, 1, 1, 0,
                 3, 1, 1, 0,
                 0, 0, 0]
        self.assertEqual(answers(calls), [1, 0,
                                          1, 0,
                                          1, 1,
                                          17, 2, 3, 1, 0, 0, 0, 1, 1, 1, 0, 1, 5, 0, 0, 0, 5, 11,
                                          5, 2, 16, 1, 1, 0,
                                          2, 3, 1,
                                          11, 2, 3, 0, 0, 1, 1, 1, 0, 1, 0, 2,
                                          1, 0,
                                          1, 0,
                                          1, 1,
                                          1, 0])

    def test_sixty_calls(self):
        self.assertEqual(answers([0, 0, 0] * 60), [1, 0] * 60)

    def test_the_longest_calls(self):
        rests = [1, 21, 0] + [4294967295] * 20 + [0]
        steps = [2, 39, 0, 0, 0] + [4294967295] * 36 + [0]
        order = [4, 20] + [4294967295] * 20 + [0]
        reason = [7, 21] + [4294967295] * 21 + [0]
        longer = [8, 22] + [4294967295] * 22 + [0]
        self.assertEqual(answers(rests * 20 + steps * 20 + order * 20), [1, -1] * 40 + [1, -6] * 20)
        self.assertEqual(answers(reason * 30 + longer * 30), [1, -6] * 30 + [1, -2] * 30)
        self.assertEqual(answers(steps * 60), [1, -1] * 60)

    def test_module_and_name(self):
        self.assertIs(stepjobs.house.answers, answers)


# All nine calls and all their refusals, sixty in all, ten of them best and ways.
MIXED = [
    best(), ways(), times(), why(0), why(0, 0), slack(0, 0), drop(0), job(0, 0, 0, (0, 0, 1)),
    machine(3, (2, 5), (5, 9)), machine(0), machine(1001), machine(0, (3, 3)),
    job(1, 4, 2, (0, 1, 2), (1, 0, 3)), job(0, 9, 1, (1, 2, 4)), job(0, 0, 0), job(0, 0, 0, (2, 0, 1)),
    times(1, 0, 0), times(0), why(0, 1, 0, 0), why(1, 1, 0, 0), why(1, 0), why(2, 1, 0, 0), best(), ways(),
    slack(0, 0, 1, 0, 0), slack(0, 1, 1, 0, 0), slack(1, 0, 1, 0, 0), slack(1, 1, 1, 0, 0), slack(0, 0, 1),
    times(1, 0, 0), machine(7, (0, 1)), machine(2), machine(0), job(3, 30, 4, (3, 5, 6), (2, 1, 2), (0, 0, 1)),
    job(0, 5, 1, *[(1, 0, 1)] * 3), job(0, 5, 1, (1, 0, 1)), job(8, 8, 0, (3, 5, 2)),
    times(0, 1, 2, 2, 0, 3, 2, 4), best(), ways(),
    why(2, 0, 1, 2, 2, 0, 3, 2, 4), why(4, 0, 1, 2, 2, 0, 3, 2, 4), slack(2, 0, 0, 1, 2, 2, 0, 3, 2, 4),
    slack(4, 0, 0, 1, 2, 2, 0, 3, 2, 4), times(0, 1, 2, 2, 0, 3, 2, 4), drop(0), drop(9),
    times(0, 1, 1, 1, 2, 3), best(), ways(), why(3, 0, 1, 1, 1, 2, 3), slack(1, 2, 0, 1, 1, 1, 2, 3),
    begins(), best(), ways(), times(), machine(0), job(0, 0, 1, (0, 0, 3)), why(0, 0), slack(0, 0, 0),
]


class Mixed(unittest.TestCase):
    def test_sixty_calls_with_ten_of_best_and_ways(self):
        self.assertEqual(len(MIXED), 60)
        self.assertEqual({one[0] for one in MIXED}, set(range(9)))
        self.assertEqual(len([one for one in MIXED if one[0] in (5, 6)]), 10)
        self.assertLessEqual(len(joined(MIXED)), 3000)
        self.assertEqual(len(ask(*MIXED)), 60)

    def test_an_answer_depends_on_the_calls_ahead_of_it_alone(self):
        found = ask(*MIXED)
        self.assertEqual(found, [last(*MIXED[:place + 1]) for place in range(60)])

    def test_calls_that_only_ask_may_be_left_out(self):
        kept = [one for one in MIXED if one[0] < 4]
        answered = [answer for one, answer in zip(MIXED, ask(*MIXED)) if one[0] < 4]
        self.assertEqual(ask(*kept), answered)

    def test_each_answer_with_how_many_numbers_it_has(self):
        found = answers(joined(MIXED))
        again = []
        for answer in apart(found):
            again += [len(answer), *answer]
        self.assertEqual(again, found)

    def test_a_refusal_is_its_number_alone(self):
        refused = [answer for answer in ask(*MIXED) if answer[0] < 0]
        self.assertEqual({tuple(answer) for answer in refused}, {(-1,), (-2,), (-5,), (-6,)})


class Kept(unittest.TestCase):
    def setUp(self):
        self.calls = joined(MIXED)

    def test_the_list_is_as_it_was_afterwards(self):
        before = list(self.calls)
        answers(self.calls)
        self.assertEqual(self.calls, before)

    def test_the_list_is_not_changed_for_a_while_either(self):
        class Watched(list):
            def refuse(self, *given):
                raise AssertionError("the list was changed")

            append = extend = insert = pop = remove = clear = sort = reverse = refuse
            __setitem__ = __delitem__ = __iadd__ = __imul__ = refuse

        self.assertEqual(answers(Watched(self.calls)), answers(self.calls))

    def test_one_time_does_not_know_of_the_other(self):
        first = answers(self.calls)
        self.assertEqual(answers(self.calls), first)
        answers(joined([machine(0)] * 4 + [job(0, 0, 0, *[(0, 0, 1)] * 8)]))
        self.assertEqual(answers(joined([drop(0), times(), machine(0), job(0, 0, 0, (0, 0, 1))])),
                         [1, -2, 2, 0, 0, 1, 0, 1, 0])
        self.assertEqual(answers(self.calls), first)

    def test_changing_an_answer_does_not_reach_the_next(self):
        first = answers(self.calls)
        kept = list(first)
        first.clear()
        self.assertEqual(answers(self.calls), kept)

    def test_the_answers_are_a_new_list_of_whole_numbers(self):
        found = answers(self.calls)
        self.assertIs(found.__class__, list)
        self.assertIsNot(found, self.calls)
        self.assertEqual({number.__class__ for number in found}, {int})

    def test_it_prints_nothing(self):
        told = io.StringIO()
        with contextlib.redirect_stdout(told), contextlib.redirect_stderr(told):
            answers(self.calls)
        self.assertEqual(told.getvalue(), "")


if __name__ == "__main__":
    unittest.main()
