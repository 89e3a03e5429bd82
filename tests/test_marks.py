"""Words, and the rows mark and best: marks reckoned by hand, and how texts are ranked."""

import unittest
from fractions import Fraction

from desk_calls import LARGEST, ask, best, last, mark, put, run, tune


def millionths(fraction):
    return fraction.numerator * 1000000 // fraction.denominator


class Marks(unittest.TestCase):
    def test_head_alone(self):
        # How dense 10/10, density 3, how full 66/42, how rare 2/2.
        self.assertEqual(last(put(1, 0, [5], []), ask((5, 1)), mark(1)), [1571428])

    def test_body_alone(self):
        # Density 1, how full 22/22.
        self.assertEqual(last(put(1, 0, [], [5]), ask((5, 1)), mark(1)), [1000000])

    def test_both_parts(self):
        # Density 4, how full 88/52.
        self.assertEqual(last(put(1, 0, [5], [5]), ask((5, 1)), mark(1)), [1692307])

    def test_oftener_in_a_part(self):
        # How dense 10 * 4 * 3 / (3 * 4 + 7 * 4 * 1) = 3, how full 66/42.
        self.assertEqual(last(put(1, 0, [], [5, 6, 5, 5]), ask((5, 1)), mark(1)), [1571428])

    def test_rare_counts_texts_not_times(self):
        # Three texts, two have 5, one of them in both parts: how rare 4/3. Bodies: A 2, L 1, N 3: 20/27.
        # Heads: A 2, L 2, N 3: how dense 2 * 20 / 48 = 5/6. Density 5/2 + 20/27 = 175/54.
        texts = (put(1, 0, [5, 5], [5]), put(2, 0, [], [5]), put(3, 0, [], []))
        first = Fraction(4, 3) * Fraction(175 * 22, 1750 + 12 * 54)
        second = Fraction(4, 3) * Fraction(20 * 22, 200 + 12 * 27)
        self.assertEqual(run(*texts, ask((5, 1)), mark(1), mark(2), mark(3))[-3:],
                         [[millionths(first)], [millionths(second)], [0]])

    def test_several_words_with_weights_and_priors(self):
        texts = (put(1, 50, [1, 2], [2, 3, 3, 4]), put(2, 0, [], [1, 5]), put(3, 100, [6], []))
        # Heads: A 3; bodies: A 6; N 3. Word 1 is in two texts, 2 and 3 in one: how rare 4/3, 2 and 2.
        # Text 1: densities 3 * 10/17, 3 * 10/17 + 10/17 and 20/17; how full 55/42, 220/151 and 110/101.
        one = 2 * Fraction(4, 3) * Fraction(55, 42) + 5 * 2 * Fraction(220, 151) + 1 * 2 * Fraction(110, 101)
        # Text 2: density 1, how full 1.
        two = 2 * Fraction(4, 3)
        given = run(*texts, ask((1, 2), (2, 5), (3, 1)), mark(1), mark(2), mark(3), best(9))[-4:]
        shown = [millionths(one * Fraction(150, 100)), millionths(two)]
        self.assertEqual(given, [[shown[0]], [shown[1]], [0], [2, 1, shown[0], 2, shown[1]]])

    def test_weight_multiplies(self):
        for weight in range(1, 11):
            self.assertEqual(last(put(1, 0, [5], []), ask((5, weight)), mark(1)), [11 * weight * 1000000 // 7])

    def test_priors(self):
        for prior, shown in ((0, 1571428), (1, 1587142), (50, 2357142), (99, 3127142), (100, 3142857)):
            self.assertEqual(last(put(1, prior, [5], []), ask((5, 1)), mark(1)), [shown], prior)

    def test_prior_of_another_text_is_nothing_to_it(self):
        self.assertEqual(last(put(1, 0, [5], []), put(2, 0, [5], []), ask((5, 1)), mark(1)),
                         last(put(1, 0, [5], []), put(2, 100, [5], []), ask((5, 1)), mark(1)))

    def test_a_0_leaves_length_out(self):
        short = last(put(1, 0, [], [5]), ask((5, 1)), tune(0, 12, 3, 1), mark(1))
        long = last(put(1, 0, [], [5] + [6] * 11), put(2, 0, [], [5]), put(3, 0, [5], [7, 7]),
                    ask((5, 1)), tune(0, 12, 3, 1), mark(1))
        self.assertEqual((short, long), ([1000000], [1000000]))

    def test_a_10_is_length_alone(self):
        # Bodies: A 4, N 2. Text 1: L 1, how dense 4/2 = 2; text 2: L 3, how dense 4/6 = 2/3. How rare 3/3.
        given = run(put(1, 0, [], [5]), put(2, 0, [], [6, 5, 6]), ask((5, 1)), tune(10, 12, 3, 1), mark(1), mark(2))
        self.assertEqual(given[-2:], [[44 * 1000000 // 32], [44 * 1000000 // 56]])

    def test_empty_parts_everywhere(self):
        for a in (0, 7, 10):
            given = run(tune(a, 12, 3, 1), put(1, 0, [], []), put(2, 0, [], []), ask((5, 1)), mark(1), best(5))
            self.assertEqual(given[-2:], [[0], [0]], a)

    def test_no_asked_word(self):
        self.assertEqual(last(put(1, 100, [5], [6]), put(2, 0, [7], []), ask((7, 10), (8, 10)), mark(1)), [0])

    def test_nothing_asked(self):
        self.assertEqual(last(put(1, 100, [5], [6]), mark(1)), [0])

    def test_rounded_down(self):
        # 22/13 is 1.6923076923.., and ten times 11/7 is 15.7142857142..: both nearer to the millionth above.
        self.assertEqual(last(put(1, 0, [5], [5]), ask((5, 1)), mark(1)), [1692307])
        self.assertEqual(last(put(1, 0, [5], []), ask((5, 10)), mark(1)), [15714285])


class MoreAndLonger(unittest.TestCase):
    TEXTS = ((1, 20, [5, 6], [5, 7, 8]), (2, 0, [6], [5, 5, 9]), (3, 0, [], [7, 8]))

    def marks(self, first, settings):
        texts = [put(*first)] + [put(*text) for text in self.TEXTS[1:]]
        return [given[0] for given in run(*texts, settings, ask((5, 3)), mark(1), mark(2), mark(3))[-3:]]

    def test_more_of_a_word_it_has_makes_no_mark_less(self):
        for a in range(11):
            settings = tune(a, 12, 3, 1)
            before = self.marks(self.TEXTS[0], settings)
            for head, body in (([5, 6, 5], [5, 7, 8]), ([5, 6], [5, 7, 8, 5]), ([5, 5], [5, 7, 8]),
                               ([5, 6], [5, 5, 8])):
                after = self.marks((1, 20, head, body), settings)
                self.assertGreater(after[0], before[0], (a, head, body))
                self.assertTrue(after[1] >= before[1] and after[2] >= before[2], (a, head, body))

    def test_longer_makes_its_mark_no_more(self):
        for a in range(11):
            settings = tune(a, 12, 3, 1)
            before = self.marks(self.TEXTS[0], settings)
            for head, body in (([5, 6, 6], [5, 7, 8]), ([5, 6], [5, 7, 8, 9]), ([5, 6] + [9] * 10, [5] + [9] * 11)):
                after = self.marks((1, 20, head, body), settings)
                self.assertLessEqual(after[0], before[0], (a, head, body))

    def test_a_word_that_more_texts_have_is_less_rare(self):
        # How rare 3/2, then 3/3; how full 1 both times.
        self.assertEqual(last(put(1, 0, [], [5]), put(2, 0, [], [6]), ask((5, 1)), mark(1)), [1500000])
        self.assertEqual(last(put(1, 0, [], [5]), put(2, 0, [], [5]), ask((5, 1)), mark(1)), [1000000])


class Best(unittest.TestCase):
    TEXTS = (put(9, 0, [], [5]), put(2, 0, [5], [5]), put(7, 0, [5], []), put(1, 0, [6], [6]), put(3, 100, [], []))

    def ranking(self, n):
        return last(*self.TEXTS, ask((5, 1)), best(n))

    def test_best_first(self):
        given = self.ranking(3)
        self.assertEqual(given[0::2], [3] + [given[2], given[4], given[6]])
        self.assertEqual(given[1::2], [2, 7, 9])
        self.assertTrue(given[2] > given[4] > given[6] > 0)

    def test_shows_the_marks(self):
        marks = run(*self.TEXTS, ask((5, 1)), mark(2), mark(7), mark(9))[-3:]
        self.assertEqual(self.ranking(3), [3, 2] + marks[0] + [7] + marks[1] + [9] + marks[2])

    def test_n_0(self):
        self.assertEqual(self.ranking(0), [0])

    def test_n_less(self):
        whole = self.ranking(3)
        self.assertEqual(self.ranking(1), [1] + whole[1:3])
        self.assertEqual(self.ranking(2), [2] + whole[1:5])

    def test_n_more(self):
        for n in (4, 5, 30, 31, LARGEST):
            self.assertEqual(self.ranking(n), self.ranking(3), n)

    def test_nothing_ranked(self):
        for n in (0, 1, LARGEST):
            self.assertEqual(run(best(n)), [[0]])
            self.assertEqual(last(*self.TEXTS, best(n)), [0])
            self.assertEqual(last(*self.TEXTS, ask((9, 1)), best(n)), [0])

    def test_alike_by_the_lower_key(self):
        calls = [put(k, 0, [], [5]) for k in (20, 3, 11, 30, 1)]
        self.assertEqual(last(*calls, ask((5, 1)), best(9))[1::2], [1, 3, 11, 20, 30])

    def test_alike_for_different_reasons_by_the_lower_key(self):
        # One has the word 5, the other 6, with one weight and as rare.
        self.assertEqual(last(put(8, 0, [], [6]), put(2, 0, [], [5]), ask((5, 3), (6, 3)), best(9))[1::2], [2, 8])
        self.assertEqual(last(put(8, 0, [], [5]), put(2, 0, [], [6]), ask((5, 3), (6, 3)), best(9))[1::2], [2, 8])
        # Half the weight, twice the prior's share.
        given = last(put(8, 0, [], [6]), put(2, 100, [], [5]), ask((5, 2), (6, 4)), best(9))
        self.assertEqual(given[1::2], [2, 8])
        self.assertEqual(given[2], given[4])

    def test_greater_mark_goes_ahead_of_the_lower_key(self):
        self.assertEqual(last(put(1, 0, [], [5]), put(2, 1, [], [5]), ask((5, 1)), best(9))[1::2], [2, 1])

    def test_shown_alike_by_the_fractions(self):
        less = ([5] * 11, [6])
        more = ([5, 5, 5, 5, 6], [5, 5, 5, 6, 6])
        # Heads: A 16, bodies: A 6, N 2; a 9, b 1, c 6, d 7. How rare 3/3.
        # The lesser: density 6 * 880/107; the greater: 6 * 320/53 + 7 * 15/8 = 20925/424.
        lesser = Fraction(5280 * 11, 52800 + 107)
        greater = Fraction(20925 * 11, 209250 + 424)
        self.assertLess(lesser, greater)
        shown = millionths(lesser)
        self.assertEqual(shown, millionths(greater))
        settings = (tune(9, 1, 6, 7), ask((5, 1)), best(9))
        self.assertEqual(last(put(1, 0, *less), put(2, 0, *more), *settings), [2, 2, shown, 1, shown])
        self.assertEqual(last(put(1, 0, *more), put(2, 0, *less), *settings), [2, 1, shown, 2, shown])

    def test_texts_without_an_asked_word_are_left_out(self):
        given = last(put(1, 100, [6], [7]), put(2, 0, [], []), put(3, 0, [], [5]), ask((5, 1), (8, 1)), best(9))
        self.assertEqual(given[:2], [1, 3])

    def test_thirty_texts(self):
        calls = [put(k, 100 - k, [], [5]) for k in range(30, 0, -1)]
        self.assertEqual(last(*calls, ask((5, 1)), best(30))[1::2], list(range(1, 31)))
        calls = [put(k, k, [], [5]) for k in range(30, 0, -1)]
        self.assertEqual(last(*calls, ask((5, 1)), best(30))[1::2], list(range(30, 0, -1)))


if __name__ == "__main__":
    unittest.main()
