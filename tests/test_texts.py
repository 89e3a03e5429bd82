"""Promise 1: put, drop and mark, and their refusals."""

import unittest

from desk_calls import LARGEST, ask, assert_refused, best, drop, last, mark, put, put_row, run


class Put(unittest.TestCase):
    def test_counts_texts(self):
        self.assertEqual(run(put(3, 0, [1], [2]), put(1, 5, [], [2]), put(2, 5, [4], [])), [[1], [2], [3]])

    def test_thirty_texts(self):
        self.assertEqual(run(*[put(k, k, [k], [k]) for k in range(1, 31)]), [[k] for k in range(1, 31)])

    def test_same_key_replaces_text_whole(self):
        given = run(put(3, 100, [5], [6]), put(3, 0, [], [5]), ask((5, 1)), mark(3), ask((6, 1)), mark(3))
        # Body alone, density 1, how full 22/22; were the prior or the head kept, it would be more.
        self.assertEqual(given, [[1], [1], [1], [1000000], [0], [0]])

    def test_replaced_text_is_not_counted_among_all(self):
        fresh = run(put(3, 0, [], [5]), put(4, 0, [1], [5, 6]), ask((5, 1)), best(9))[-2:]
        again = run(put(3, 0, [9, 9], [5, 8, 8]), put(4, 0, [1], [5, 6]), put(3, 0, [], [5]), ask((5, 1)), best(9))[-2:]
        self.assertEqual(again, fresh)

    def test_first_n_words_are_the_head(self):
        words = [5, 6]
        # Head alone: density 3, how full 66/42. Body alone: density 1, how full 1.
        self.assertEqual(run(put_row(1, 0, 1, words), ask((5, 1)), mark(1), ask((6, 1)), mark(1)),
                         [[1], [1], [1571428], [1], [1000000]])

    def test_n_0_makes_all_body(self):
        # For either word: how dense 20 / (6 + 14), density 1, how full 1.
        self.assertEqual(run(put_row(1, 0, 0, [5, 6]), ask((5, 1)), mark(1), ask((6, 1)), mark(1))[2::2],
                         [[1000000], [1000000]])

    def test_n_all_makes_all_head(self):
        self.assertEqual(run(put_row(1, 0, 2, [5, 6]), ask((5, 1)), mark(1), ask((6, 1)), mark(1))[2::2],
                         [[1571428], [1571428]])

    def test_both_parts_empty(self):
        self.assertEqual(run(put(1, 0, [], []), ask((5, 1)), mark(1), best(1)), [[1], [0], [0], [0]])

    def test_largest_parts(self):
        self.assertEqual(last(put(1, 0, [30] * 12, [1] * 12)), [1])
        self.assertEqual(last(put(1, 0, [30] * 12, [])), [1])
        self.assertEqual(last(put(1, 0, [], [1] * 12)), [1])

    def test_edges_that_are_taken(self):
        for call in (put(1, 0, [1], [1]), put(30, 0, [1], [1]), put(2, 100, [1], [1]), put(2, 0, [1, 30], [30, 1]),
                     put_row(2, 0, 3, [1, 2, 3]), put_row(2, 0, 0, [])):
            self.assertEqual(last(call), [1], call)


class PutRefused(unittest.TestCase):
    def test_key(self):
        for k in (0, 31, 32, LARGEST):
            assert_refused(self, put(k, 0, [5], [6]), -1)

    def test_prior(self):
        for p in (101, 102, LARGEST):
            assert_refused(self, put(1, p, [5], [6]), -1)

    def test_fewer_than_n_words(self):
        for n, words in ((1, []), (3, [5, 6]), (13, [5] * 12), (LARGEST, [5, 6]), (LARGEST, [])):
            assert_refused(self, put_row(1, 0, n, words), -1)

    def test_head_too_long(self):
        for n, words in ((13, [5] * 13), (13, [5] * 20), (30, [5] * 30)):
            assert_refused(self, put_row(1, 0, n, words), -1)

    def test_body_too_long(self):
        for n, words in ((0, [5] * 13), (12, [5] * 25), (1, [5] * 14), (0, [5] * 30)):
            assert_refused(self, put_row(1, 0, n, words), -1)

    def test_word(self):
        for word in (0, 31, LARGEST):
            for head, body in (([word], []), ([], [word]), ([5, word], [6]), ([5], [6, word]), ([word, 5], [6])):
                assert_refused(self, put(1, 0, head, body), -1)

    def test_new_key_is_not_there_after_a_refusal(self):
        for call in (put(2, 101, [5], [5]), put_row(2, 0, 3, [5]), put(2, 0, [5] * 13, []), put(2, 0, [5], [31])):
            assert_refused(self, call, -1)
            self.assertEqual(run(call, mark(2), put(3, 0, [], []))[1:], [[-3], [1]])

    def test_several_faults(self):
        assert_refused(self, put_row(0, 101, LARGEST, [0, 31]), -1)


class DropAndMark(unittest.TestCase):
    def test_drop_counts_what_is_left(self):
        self.assertEqual(run(put(1, 0, [5], []), put(2, 0, [5], []), drop(1), drop(2)), [[1], [2], [1], [0]])

    def test_dropped_text_is_gone(self):
        given = run(put(1, 0, [5], []), put(2, 0, [5], []), ask((5, 1)), drop(1), mark(1), drop(1), best(9))
        self.assertEqual(given[3:6], [[1], [-3], [-3]])
        self.assertEqual(given[6], [1, 2, 1571428])

    def test_dropped_text_is_not_counted_among_all(self):
        fresh = run(put(2, 0, [5], [5, 6]), ask((5, 1)), mark(2))[-1]
        self.assertEqual(last(put(1, 0, [5] * 9, [7]), put(2, 0, [5], [5, 6]), ask((5, 1)), drop(1), mark(2)), fresh)

    def test_put_again_after_drop(self):
        self.assertEqual(run(put(1, 0, [5], []), drop(1), put(1, 0, [5], []), ask((5, 1)), mark(1)),
                         [[1], [0], [1], [1], [1571428]])

    def test_no_such_text(self):
        for k in (0, 2, 3, 29, 31, LARGEST):
            assert_refused(self, drop(k), -3)
            assert_refused(self, mark(k), -3)

    def test_no_text_at_all(self):
        self.assertEqual(run(drop(1), mark(1)), [[-3], [-3]])

    def test_mark_changes_nothing(self):
        self.assertEqual(run(put(1, 0, [5], []), ask((5, 1)), mark(1), mark(1), best(1))[2:],
                         [[1571428], [1571428], [1, 1, 1571428]])


if __name__ == "__main__":
    unittest.main()
