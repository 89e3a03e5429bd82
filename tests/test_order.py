"""Promise 1: versus and place, how texts stand to one another, and their refusals."""

import unittest

from desk_calls import (LARGEST, SETUP, ask, assert_changes_nothing, assert_refused, best, drop, last, mark, place,
                        put, run, tune, versus)

# Of these the marks are shown alike, but that of MORE is greater (test_marks.py reckons both).
LESS = ([5] * 11, [6])
MORE = ([5, 5, 5, 5, 6], [5, 5, 5, 6, 6])
SHOWN_ALIKE = (tune(9, 1, 6, 7), ask((5, 1)))


class Versus(unittest.TestCase):
    TEXTS = (put(9, 0, [], [5]), put(2, 0, [5], [5]), put(7, 0, [5], []), put(1, 0, [6], [6]), put(3, 100, [], []),
             put(8, 0, [], [5]))

    def between(self, i, j):
        return last(*self.TEXTS, ask((5, 1)), versus(i, j))

    def test_greater_and_less(self):
        for greater, less in ((2, 7), (7, 9), (2, 9), (7, 8)):
            self.assertEqual(self.between(greater, less), [1], (greater, less))
            self.assertEqual(self.between(less, greater), [2], (greater, less))

    def test_alike_whatever_the_keys(self):
        self.assertEqual(self.between(8, 9), [0])
        self.assertEqual(self.between(9, 8), [0])

    def test_alike_for_different_reasons(self):
        # Half the weight, twice the prior's share.
        calls = (put(8, 0, [], [6]), put(2, 100, [], [5]), ask((5, 2), (6, 4)))
        self.assertEqual(run(*calls, versus(8, 2), versus(2, 8))[-2:], [[0], [0]])

    def test_with_itself(self):
        for k in (9, 2, 7, 1, 3, 8):
            self.assertEqual(self.between(k, k), [0], k)

    def test_prior_counts(self):
        self.assertEqual(run(put(1, 0, [], [5]), put(2, 1, [], [5]), ask((5, 1)), versus(1, 2), versus(2, 1))[-2:],
                         [[2], [1]])

    def test_shown_alike_but_not_alike(self):
        given = run(put(1, 0, *LESS), put(2, 0, *MORE), *SHOWN_ALIKE, mark(1), mark(2), versus(1, 2), versus(2, 1))
        self.assertEqual(given[-4], given[-3])
        self.assertEqual(given[-2:], [[2], [1]])

    def test_no_asked_word(self):
        for i, j, answer in ((1, 3, 0), (3, 1, 0), (1, 9, 2), (9, 1, 1), (3, 2, 2), (2, 3, 1)):
            self.assertEqual(self.between(i, j), [answer], (i, j))

    def test_nothing_asked(self):
        self.assertEqual(run(*self.TEXTS, versus(2, 9), versus(9, 2), versus(1, 3), versus(2, 2))[-4:], [[0]] * 4)

    def test_changes_nothing(self):
        # Text 1: (2 * 4/3 * 5/3 + 3 * 4/3 * 75/62) * 110/100, about 10.2. Text 4: how dense 30/30, density 4,
        # how full 120/60, mark 3 * 4/3 * 2 * 2 = 16.
        assert_changes_nothing(self, versus(1, 4), [2])
        assert_changes_nothing(self, versus(4, 1), [1])
        assert_changes_nothing(self, versus(30, 30), [0])

    def test_no_such_text(self):
        for k in (0, 2, 3, 29, 31, LARGEST):
            assert_refused(self, versus(k, 1), -3)
            assert_refused(self, versus(1, k), -3)
            assert_refused(self, versus(k, k), -3)
        assert_refused(self, versus(2, 3), -3)

    def test_no_text_at_all(self):
        self.assertEqual(run(versus(1, 1), versus(1, 2), versus(0, LARGEST)), [[-3], [-3], [-3]])

    def test_after_drop(self):
        self.assertEqual(run(put(1, 0, [], [5]), put(2, 0, [], [5]), ask((5, 1)), drop(2), versus(1, 2), versus(2, 1),
                             versus(1, 1))[-3:], [[-3], [-3], [0]])


class Place(unittest.TestCase):
    TEXTS = (put(9, 0, [], [5]), put(2, 0, [5], [5]), put(7, 0, [5], []), put(1, 0, [6], [6]), put(3, 100, [], []))

    def test_first_middle_and_last(self):
        self.assertEqual(run(*self.TEXTS, ask((5, 1)), place(2), place(7), place(9))[-3:], [[1], [2], [3]])

    def test_alone(self):
        self.assertEqual(last(put(30, 0, [], [5]), ask((5, 1)), place(30)), [1])

    def test_alike_by_the_lower_key(self):
        keys = (20, 3, 11, 30, 1)
        calls = [put(k, 0, [], [5]) for k in keys]
        given = run(*calls, ask((5, 1)), *[place(k) for k in keys])[-5:]
        self.assertEqual(given, [[4], [2], [3], [5], [1]])

    def test_alike_behind_better_ones(self):
        calls = (put(1, 0, [], [5]), put(2, 0, [], [5]), put(30, 0, [5], []), put(3, 0, [], [5]))
        self.assertEqual(run(*calls, ask((5, 1)), place(30), place(1), place(2), place(3))[-4:], [[1], [2], [3], [4]])

    def test_greater_mark_goes_ahead_of_the_lower_key(self):
        self.assertEqual(run(put(1, 0, [], [5]), put(2, 1, [], [5]), ask((5, 1)), place(1), place(2))[-2:], [[2], [1]])

    def test_shown_alike_by_the_fractions(self):
        self.assertEqual(run(put(1, 0, *LESS), put(2, 0, *MORE), *SHOWN_ALIKE, place(1), place(2))[-2:], [[2], [1]])
        self.assertEqual(run(put(1, 0, *MORE), put(2, 0, *LESS), *SHOWN_ALIKE, place(1), place(2))[-2:], [[1], [2]])

    def test_as_best_tells(self):
        calls = [put(k, (k * 37) % 101, [5] * (k % 4), [6] * (k % 3)) for k in range(1, 10)]
        keys = last(*calls, ask((5, 3), (6, 2)), best(30))[1::2]
        self.assertEqual(len(keys), 9)
        given = run(*calls, ask((5, 3), (6, 2)), *[place(k) for k in keys])[-9:]
        self.assertEqual(given, [[at] for at in range(1, 10)])

    def test_thirty_texts(self):
        calls = [put(k, k, [], [5]) for k in range(1, 31)]
        given = run(*calls, ask((5, 1)), *[place(k) for k in (1, 2, 15, 29, 30)])[-5:]
        self.assertEqual(given, [[30], [29], [16], [2], [1]])

    def test_changes_nothing(self):
        # Text 30 has 5 in its body alone: 2 * 4/3 times how full it is; the others have about 10.2 and 16.
        assert_changes_nothing(self, place(4), [1])
        assert_changes_nothing(self, place(1), [2])
        assert_changes_nothing(self, place(30), [3])

    def test_no_such_text(self):
        for k in (0, 2, 3, 29, 31, LARGEST):
            assert_refused(self, place(k), -3)

    def test_not_ranked(self):
        for k in (1, 3):
            assert_refused(self, place(k), -3, self.TEXTS + (ask((5, 1)),))
        assert_refused(self, place(1), -3, SETUP + (ask((9, 1)),))

    def test_nothing_asked(self):
        for k in (9, 2, 7, 1, 3, LARGEST):
            assert_refused(self, place(k), -3, self.TEXTS)
        self.assertEqual(last(put(1, 0, [5], []), ask((5, 1)), ask(), place(1)), [-3])

    def test_no_text_at_all(self):
        self.assertEqual(run(place(1), ask((5, 1)), place(1)), [[-3], [0], [-3]])

    def test_after_drop(self):
        self.assertEqual(run(*self.TEXTS, ask((5, 1)), drop(2), place(2), place(7), place(9))[-3:], [[-3], [1], [2]])


if __name__ == "__main__":
    unittest.main()
