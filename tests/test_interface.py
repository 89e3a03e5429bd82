"""The interface: the form of what is handed in and given back, and that nothing else is touched or kept."""

import builtins
import contextlib
import io
import time
import unittest
from unittest import mock

from desk_calls import (LARGEST, PROBE, SETUP, ask, assert_refused, best, drop, lift, line, mark, parted, parts, place,
                        put, put_row, tune, versus, why)
from markdesk.ranks import answers

QUESTIONS = (why(1), versus(1, 4), place(30), lift(1, 5), parts(1))
WRONG = (put(0, 0, [], []), tune(11, 0, 0, 0), ask((5, 0)), drop(29), mark(29),
         why(29), versus(1, 29), place(29), lift(1, 9), parts(29))
# All eleven calls, in 40.
WHOLE = line(SETUP + QUESTIONS + WRONG + PROBE)


class Unchanging(list):
    """A list that fails at the first try to change it."""

    def refuse(self, *given, **named):
        raise AssertionError("what was handed in was changed")

    append = clear = extend = insert = pop = remove = reverse = sort = refuse
    __setitem__ = __delitem__ = __iadd__ = __imul__ = refuse


class Interface(unittest.TestCase):
    def test_each_answer_behind_its_count(self):
        calls = line([put(1, 0, [5], []), ask((5, 1)), mark(1), best(9), mark(2), tune(7, 12, 3, 1), drop(1), best(9)])
        self.assertEqual(answers(calls),
                         [1, 1, 1, 1, 1, 1571428, 3, 1, 1, 1571428, 1, -3, 1, 0, 1, 0, 1, 0])

    def test_written_out(self):
        # put key 2, prior 0, head of one word; the others are numbers of calls as well.
        self.assertEqual(answers([0, 2, 0, 1, 3, 5, 4, 3, 3, 2, 5, 1, 5, 1]), [1, 1, 1, 1, 3, 1, 2, 1571428])

    def test_as_the_readme_shows(self):
        calls = [0, 1, 0, 1, 3, 5, 6, 7, 0, 2, 10, 0, 2, 5, 5, 3, 2, 5, 10, 4, 1, 5, 2, 6, 1, 9, 1, 5]
        self.assertEqual(answers(calls), [1, 1, 1, 2, 1, 2, 1, 13095238, 5, 2, 2, 15125000, 1, 13095238,
                                          9, 1, 0, 2, 1, 1, 30, 17, 55, 42, 1, 1])

    def test_all_eleven_calls_in_one_list(self):
        # Text 1: how dense 10/17, density 30/17, how full 660 / (300 + 204). Text 2: density 2, how full 44/32.
        # With one 5 in its body text 1 has 1034/674, more than text 2.
        told = (
            (put(1, 0, [5], [6, 7]), [1]), (put(2, 0, [], [5, 5]), [2]), (tune(7, 12, 3, 1), [0]), (why(1), []),
            (ask((5, 1)), [2]), (mark(1), [1309523]), (best(9), [2, 2, 1375000, 1, 1309523]),
            (why(1), [1, 0, 2, 1, 1, 30, 17, 55, 42]), (versus(1, 2), [2]), (place(2), [1]), (lift(1, 5), [1]),
            (parts(1), [1, 1309523]), (drop(2), [1]), (lift(1, 5), [0]), (lift(1, 6), [-2]), (place(2), [-3]),
        )
        self.assertEqual({call[0] for call, answer in told}, set(range(11)))
        self.assertEqual(answers(line([call for call, answer in told])),
                         line([[len(answer)] + answer for call, answer in told]))

    def test_questions_written_out(self):
        # What is handed to these calls are numbers of calls as well.
        calls = [0, 6, 0, 1, 2, 5, 7, 3, 2, 5, 1, 6, 6, 7, 6, 6, 8, 6, 9, 6, 5, 10, 6, 9, 6, 6, 7, 7, 8, 8, 9]
        self.assertEqual(answers(calls), [1, 1, 1, 1, 9, 1, 0, 1, 1, 1, 3, 1, 11, 7, 1, 0, 1, 1, 1, 0, 2, 1, 1571428,
                                          1, -2, 1, -3, 1, -3])

    def test_every_refusal_with_the_largest_numbers(self):
        for call, refusal in (
            (put(LARGEST, LARGEST, [LARGEST], [LARGEST]), -1), (put_row(1, 0, LARGEST, []), -1),
            (tune(LARGEST, LARGEST, LARGEST, LARGEST), -1), (ask((LARGEST, LARGEST)), -1),
            (drop(LARGEST), -3), (mark(LARGEST), -3), (why(LARGEST), -3), (parts(LARGEST), -3),
            (versus(LARGEST, 1), -3), (versus(1, LARGEST), -3), (versus(LARGEST, LARGEST), -3), (place(LARGEST), -3),
            (lift(LARGEST, 5), -3), (lift(LARGEST, LARGEST), -3), (lift(1, LARGEST), -2),
        ):
            assert_refused(self, call, refusal)

    def test_a_refused_row_is_passed_over_whole(self):
        self.assertEqual(answers([0, 0, 0, 0, 2, 4, 4, 3, 3, 1, 1, 1, 4, 1]), [1, -1, 1, -1, 1, -3])
        self.assertEqual(answers([0, 1, 0, 31, 30] + [1] * 30 + [3, 12] + [1] * 12 + [5, 0]), [1, -1, 1, -1, 1, 0])

    def test_one_call(self):
        for call, given in ((put(1, 0, [], []), [1, 1]), (drop(1), [1, -3]), (tune(0, 1, 1, 1), [1, 0]),
                            (ask(), [1, 0]), (mark(1), [1, -3]), (best(0), [1, 0]), (best(LARGEST), [1, 0]),
                            (why(1), [1, -3]), (versus(1, 1), [1, -3]), (place(1), [1, -3]), (lift(1, 5), [1, -3]),
                            (parts(1), [1, -3])):
            self.assertEqual(answers(call), given)

    def test_forty_calls(self):
        calls = [put(k, k, [5] * 12, [5] * 12) for k in range(1, 31)] + [ask((5, 1))] + [best(30)] * 9
        given = answers(line(calls))
        self.assertEqual(given[:62], line([[1, k] for k in range(1, 31)]) + [1, 30])
        self.assertEqual(len(given), 62 + 9 * 62)

    def test_forty_calls_with_lift_take_a_short_time(self):
        calls = [put(k, 100, [1, 2, 3, 4] * 3, [1, 2, 3, 4] * 3) for k in range(1, 30)]
        calls += [put(30, 0, [9] * 12, [9] * 12), ask((1, 7), (2, 8), (3, 9), (4, 10))] + [lift(30, 1)] * 9
        self.assertEqual(len(calls), 40)
        begin = time.perf_counter()
        given = parted(answers(line(calls)))
        took = time.perf_counter() - begin
        self.assertEqual(given[31:], [[-6]] * 9)
        self.assertLess(took, 5)

    def test_whole_numbers_alone(self):
        given = answers(WHOLE)
        self.assertIs(type(given), list)
        self.assertEqual({type(number) for number in given}, {int})

    def test_list_handed_in_is_not_changed(self):
        calls = list(WHOLE)
        answers(calls)
        self.assertEqual(calls, WHOLE)

    def test_list_handed_in_is_not_changed_for_a_while(self):
        self.assertEqual(answers(Unchanging(WHOLE)), answers(WHOLE))

    def test_what_is_given_back_is_another_list_each_time(self):
        first = answers(WHOLE)
        kept = list(first)
        first.append(1)
        self.assertEqual(answers(WHOLE), kept)

    def test_nothing_is_kept(self):
        first = answers(WHOLE)
        # These leave texts, settings and asked words behind, if anything is.
        answers(line([put(7, 9, [5], [5, 6]), tune(1, 2, 3, 4), ask((5, 9))]))
        self.assertEqual(answers(WHOLE), first)
        self.assertEqual(answers(line([best(9), mark(7), put(1, 0, [5], []), best(1)])), [1, 0, 1, -3, 1, 1, 1, 0])

    def test_prints_reads_and_imports_nothing(self):
        out = io.StringIO()
        err = io.StringIO()
        fail = mock.Mock(side_effect=AssertionError("not allowed"))
        with contextlib.redirect_stdout(out), contextlib.redirect_stderr(err):
            with mock.patch.object(builtins, "open", fail), mock.patch.object(builtins, "input", fail):
                with mock.patch.object(builtins, "__import__", fail):
                    answers(WHOLE)
        self.assertEqual((out.getvalue(), err.getvalue()), ("", ""))
        fail.assert_not_called()


if __name__ == "__main__":
    unittest.main()
