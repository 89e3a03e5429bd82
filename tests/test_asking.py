"""Promise 2: tune and ask, and their refusals."""

import unittest

from desk_calls import LARGEST, ask, ask_row, assert_refused, best, drop, last, mark, put, run, tune


class Tune(unittest.TestCase):
    def test_answers_0_at_every_edge(self):
        for call in (tune(0, 1, 1, 1), tune(10, 100, 10, 10), tune(0, 100, 1, 10), tune(10, 1, 10, 1)):
            self.assertEqual(run(call), [[0]], call)

    def test_beginning_is_7_12_3_1(self):
        calls = [put(1, 0, [5, 6], [5, 6, 7]), put(2, 0, [6], [5]), ask((5, 4)), best(9)]
        self.assertEqual(run(*calls), run(tune(7, 12, 3, 1), *calls)[1:])
        for other in (tune(6, 12, 3, 1), tune(7, 11, 3, 1), tune(7, 12, 2, 1), tune(7, 12, 3, 2)):
            self.assertNotEqual(run(*calls)[-1], run(other, *calls)[-1], other)

    def test_each_number_counts(self):
        calls = [put(1, 0, [5, 6], [5]), put(2, 0, [6], [7, 8, 9]), ask((5, 1))]
        # Heads: A 3, L 2, N 2. Bodies: A 4, L 1, N 2. How rare: 3/2.
        # a 0: how dense 1 and 1; density 2 + 5; b 4: how full 98/74.
        self.assertEqual(last(*calls, tune(0, 4, 2, 5), mark(1)), [147 * 1000000 // 74])
        # a 10: how dense 3/4 and 2; density 3/2 + 10 = 23/2; b 4: how full 161/119.
        self.assertEqual(last(*calls, tune(10, 4, 2, 5), mark(1)), [161 * 3 * 1000000 // (119 * 2)])
        # a 10, b 100: how full (23/2 * 110) / (115 + 100) = 1265/215.
        self.assertEqual(last(*calls, tune(10, 100, 2, 5), mark(1)), [1265 * 3 * 1000000 // (215 * 2)])
        # a 10, b 1, c 10, d 1: density 15/2 + 2 = 19/2, how full (19/2 * 11) / 96 = 209/192.
        self.assertEqual(last(*calls, tune(10, 1, 10, 1), mark(1)), [209 * 3 * 1000000 // (192 * 2)])

    def test_later_tune_takes_the_place(self):
        calls = [put(1, 0, [5, 6], [5]), ask((5, 1))]
        self.assertEqual(last(*calls, tune(0, 4, 2, 5), tune(3, 9, 8, 7), mark(1)),
                         last(*calls, tune(3, 9, 8, 7), mark(1)))

    def test_refused(self):
        for call in (tune(11, 12, 3, 1), tune(LARGEST, 12, 3, 1),
                     tune(7, 0, 3, 1), tune(7, 101, 3, 1), tune(7, LARGEST, 3, 1),
                     tune(7, 12, 0, 1), tune(7, 12, 11, 1), tune(7, 12, LARGEST, 1),
                     tune(7, 12, 3, 0), tune(7, 12, 3, 11), tune(7, 12, 3, LARGEST),
                     tune(11, 0, 0, 0)):
            assert_refused(self, call, -1)


class Ask(unittest.TestCase):
    TEXTS = (put(1, 0, [1], [2]), put(2, 0, [], [2, 3]), put(3, 0, [3, 4], []), put(4, 0, [], []))

    def test_counts_ranked_texts(self):
        for pairs, ranked in (
            ([], 0), ([(1, 1)], 1), ([(2, 1)], 2), ([(9, 1)], 0), ([(1, 1), (4, 1)], 2),
            ([(1, 1), (2, 1), (3, 1)], 3), ([(1, 1), (2, 1), (3, 1), (4, 1)], 3), ([(30, 10), (29, 1)], 0),
        ):
            self.assertEqual(last(*self.TEXTS, ask(*pairs)), [ranked], pairs)

    def test_without_texts(self):
        self.assertEqual(run(ask(), ask((1, 1)), ask((1, 1), (2, 2), (3, 3), (30, 10)), best(9)),
                         [[0], [0], [0], [0]])

    def test_nothing_asked_at_the_beginning(self):
        self.assertEqual(run(put(1, 0, [1], [2]), mark(1), best(9)), [[1], [0], [0]])

    def test_nothing_asked_by_an_empty_ask(self):
        self.assertEqual(run(put(1, 0, [1], [2]), ask((1, 1)), ask(), mark(1), best(9)), [[1], [1], [0], [0], [0]])

    def test_later_ask_takes_the_place(self):
        self.assertEqual(last(*self.TEXTS, ask((1, 5), (4, 2)), ask((2, 3)), best(9)),
                         last(*self.TEXTS, ask((2, 3)), best(9)))

    def test_stays_asked_while_texts_change(self):
        self.assertEqual(run(ask((5, 1)), put(1, 0, [5], []), mark(1), drop(1), put(2, 0, [], [5]), mark(2))[2::3],
                         [[1571428], [1000000]])

    def test_word_and_weight_by_turns(self):
        # Were it a list of words and then one of weights, 5 would weigh 7.
        self.assertEqual(last(put(1, 0, [], [5]), ask_row([5, 2, 7, 3]), mark(1)), [2000000])

    def test_edges_that_are_taken(self):
        for pairs in ([(1, 1)], [(30, 10)], [(1, 10), (30, 1), (2, 10), (29, 1)]):
            self.assertEqual(run(ask(*pairs)), [[0]], pairs)
        # A weight may be as a word or another weight is.
        self.assertEqual(run(ask((5, 5), (6, 5))), [[0]])


class AskRefused(unittest.TestCase):
    def test_odd_count(self):
        for row in ([5], [5, 1, 6], [5, 1, 6, 1, 7], [1, 1, 2, 1, 3, 1, 4], [1, 1, 2, 1, 3, 1, 4, 1, 5]):
            assert_refused(self, ask_row(row), -1)

    def test_more_than_four_words(self):
        for count in (5, 6):
            assert_refused(self, ask(*[(word, 1) for word in range(1, count + 1)]), -1)

    def test_word(self):
        for word in (0, 31, LARGEST):
            assert_refused(self, ask((word, 1)), -1)
            assert_refused(self, ask((5, 1), (6, 1), (7, 1), (word, 1)), -1)

    def test_word_twice(self):
        for pairs in ([(5, 1), (5, 1)], [(5, 1), (5, 2)], [(5, 1), (6, 1), (5, 1)], [(6, 1), (7, 1), (8, 1), (6, 1)],
                      [(7, 1), (8, 1), (9, 1), (9, 1)]):
            assert_refused(self, ask(*pairs), -1)

    def test_weight(self):
        for weight in (0, 11, LARGEST):
            assert_refused(self, ask((5, weight)), -1)
            assert_refused(self, ask((5, 1), (6, 1), (7, 1), (8, weight)), -1)


if __name__ == "__main__":
    unittest.main()
