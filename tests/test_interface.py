"""The interface: the form of what is handed in and given back, and that nothing else is touched or kept."""

import builtins
import contextlib
import io
import unittest
from unittest import mock

from desk_calls import LARGEST, PROBE, SETUP, ask, best, drop, line, mark, put, tune
from markdesk.ranks import answers

WRONG = (put(0, 0, [], []), put(1, 101, [5], [5]), tune(11, 0, 0, 0), ask((5, 0)), drop(29), mark(29))
WHOLE = line(SETUP + WRONG + PROBE)


class Unchanging(list):
    """A list that fails at the first try to change it."""

    def refuse(self, *given, **named):
        raise AssertionError("what was handed in was changed")

    append = clear = extend = insert = pop = remove = reverse = sort = refuse
    __setitem__ = __delitem__ = __iadd__ = __imul__ = refuse


class Interface(unittest.TestCase):
    def test_each_answer_behind_its_count(self):
        calls = line([put(1, 0, [5], []), ask((5, 1)), mark(1), best(9), mark(2), tune(7, 12, 3, 1), drop(1), best(9)])
        self.assertEqual(answers(calls),
                         [1, 1, 1, 1, 1, 1571428, 3, 1, 1, 1571428, 1, -3, 1, 0, 1, 0, 1, 0])

    def test_written_out(self):
        # put key 2, prior 0, head of one word; the others are numbers of calls as well.
        self.assertEqual(answers([0, 2, 0, 1, 3, 5, 4, 3, 3, 2, 5, 1, 5, 1]), [1, 1, 1, 1, 3, 1, 2, 1571428])

    def test_as_the_readme_shows(self):
        calls = [0, 1, 0, 1, 3, 5, 6, 7, 0, 2, 50, 0, 2, 5, 5, 3, 2, 5, 10, 4, 1, 5, 2]
        self.assertEqual(answers(calls), [1, 1, 1, 2, 1, 2, 1, 13095238, 5, 2, 2, 20625000, 1, 13095238])

    def test_a_refused_row_is_passed_over_whole(self):
        self.assertEqual(answers([0, 0, 0, 0, 2, 4, 4, 3, 3, 1, 1, 1, 4, 1]), [1, -1, 1, -1, 1, -3])
        self.assertEqual(answers([0, 1, 0, 31, 30] + [1] * 30 + [3, 12] + [1] * 12 + [5, 0]), [1, -1, 1, -1, 1, 0])

    def test_one_call(self):
        for call, given in ((put(1, 0, [], []), [1, 1]), (drop(1), [1, -3]), (tune(0, 1, 1, 1), [1, 0]),
                            (ask(), [1, 0]), (mark(1), [1, -3]), (best(0), [1, 0]), (best(LARGEST), [1, 0])):
            self.assertEqual(answers(call), given)

    def test_forty_calls(self):
        calls = [put(k, k, [5] * 12, [5] * 12) for k in range(1, 31)] + [ask((5, 1))] + [best(30)] * 9
        given = answers(line(calls))
        self.assertEqual(given[:62], line([[1, k] for k in range(1, 31)]) + [1, 30])
        self.assertEqual(len(given), 62 + 9 * 62)

    def test_whole_numbers_alone(self):
        given = answers(WHOLE)
        self.assertIs(type(given), list)
        self.assertEqual({type(number) for number in given}, {int})

    def test_list_handed_in_is_not_changed(self):
        calls = list(WHOLE)
        answers(calls)
        self.assertEqual(calls, WHOLE)

    def test_list_handed_in_is_not_changed_for_a_while(self):
        self.assertEqual(answers(Unchanging(WHOLE)), answers(WHOLE))

    def test_what_is_given_back_is_another_list_each_time(self):
        first = answers(WHOLE)
        kept = list(first)
        first.append(1)
        self.assertEqual(answers(WHOLE), kept)

    def test_nothing_is_kept(self):
        first = answers(WHOLE)
        # These leave texts, settings and asked words behind, if anything is.
        answers(line([put(7, 9, [5], [5, 6]), tune(1, 2, 3, 4), ask((5, 9))]))
        self.assertEqual(answers(WHOLE), first)
        self.assertEqual(answers(line([best(9), mark(7), put(1, 0, [5], []), best(1)])), [1, 0, 1, -3, 1, 1, 1, 0])

    def test_prints_reads_and_imports_nothing(self):
        out = io.StringIO()
        err = io.StringIO()
        fail = mock.Mock(side_effect=AssertionError("not allowed"))
        with contextlib.redirect_stdout(out), contextlib.redirect_stderr(err):
            with mock.patch.object(builtins, "open", fail), mock.patch.object(builtins, "input", fail):
                with mock.patch.object(builtins, "__import__", fail):
                    answers(WHOLE)
        self.assertEqual((out.getvalue(), err.getvalue()), ("", ""))
        fail.assert_not_called()


if __name__ == "__main__":
    unittest.main()
