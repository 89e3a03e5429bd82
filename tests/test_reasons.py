"""Promise 1: why and parts, what each asked word gives a text, and their refusals."""

import unittest
from fractions import Fraction

from desk_calls import LARGEST, ask, assert_changes_nothing, assert_refused, drop, last, parts, put, run, tune, why
from markdesk.ranks import answers

# Heads: A 3; bodies: A 6; N 3. In text 1 each time in the head or in the body makes how dense 10/17.
TEXTS = (put(1, 50, [1, 2], [2, 3, 3, 4]), put(2, 0, [], [1, 5]), put(3, 100, [6], []))

# What why tells of text 1.
WORD_1 = [1, 0, 2, 4, 3, 30, 17, 55, 42]
WORD_2 = [1, 1, 1, 2, 1, 40, 17, 220, 151]
WORD_3 = [0, 2, 1, 2, 1, 20, 17, 110, 101]
WORD_9 = [0, 0, 0, 4, 1, 0, 1, 0, 1]

# The head and the body of text 1 are told apart by their lengths: heads A 3, L 2; bodies A 4, L 1; N 2.
TWO_TEXTS = (put(1, 0, [5, 6], [5]), put(2, 0, [6], [7, 8, 9]), ask((5, 1)))


class Why(unittest.TestCase):
    def test_nothing_asked(self):
        self.assertEqual(run(put(1, 0, [5], [6]), why(1)), [[1], []])
        self.assertEqual(run(put(1, 0, [5], [6]), ask((5, 1)), ask(), why(1))[-1], [])

    def test_nothing_asked_is_told_as_the_count_0_alone(self):
        self.assertEqual(answers([0, 1, 0, 0, 0, 6, 1, 6, 1, 4, 1]), [1, 1, 0, 0, 1, 0])

    def test_head_alone(self):
        # How rare 2/2, density 3, how full 66/42.
        self.assertEqual(last(put(1, 0, [5], []), ask((5, 1)), why(1)), [1, 0, 1, 1, 1, 3, 1, 11, 7])

    def test_body_alone(self):
        # Density 1, how full 22/22.
        self.assertEqual(last(put(1, 0, [], [5]), ask((5, 1)), why(1)), [0, 1, 1, 1, 1, 1, 1, 1, 1])

    def test_both_parts(self):
        # Density 4, how full 88/52.
        self.assertEqual(last(put(1, 0, [5], [5]), ask((5, 1)), why(1)), [1, 1, 1, 1, 1, 4, 1, 22, 13])

    def test_neither_part(self):
        self.assertEqual(last(put(1, 0, [5], [6]), ask((7, 1)), why(1)), [0, 0, 0, 2, 1, 0, 1, 0, 1])
        self.assertEqual(last(put(1, 0, [], []), ask((7, 1)), why(1)), [0, 0, 0, 2, 1, 0, 1, 0, 1])
        for a in (0, 10):
            self.assertEqual(last(tune(a, 1, 1, 1), put(1, 0, [], []), ask((7, 1)), why(1)),
                             [0, 0, 0, 2, 1, 0, 1, 0, 1], a)

    def test_another_text_has_it(self):
        # How rare 3/2; the text asked about has nothing of it.
        self.assertEqual(last(put(1, 0, [5], [6]), put(2, 0, [], [7, 7]), ask((7, 1)), why(1)),
                         [0, 0, 1, 3, 2, 0, 1, 0, 1])

    def test_counts(self):
        # Heads: A 12, L 12, N 3; bodies: A 6, L 6, N 3: how dense 7 * 10/24 and 4 * 10/24; how rare 4/2.
        # Density 3 * 70/24 + 40/24 = 125/12, how full (125 * 22) / (1250 + 144).
        given = last(put(1, 0, [5] * 7 + [6] * 5, [6, 5, 5, 6, 5, 5]), put(2, 0, [], []), put(3, 0, [], []),
                     ask((5, 1)), why(1))
        self.assertEqual(given, [7, 4, 1, 2, 1, 125, 12, 1375, 697])

    def test_having_counts_texts_not_times(self):
        given = last(put(1, 0, [], [6]), put(2, 0, [5, 5, 5], [5, 5]), put(3, 0, [], [5]), ask((5, 1)), why(1))
        self.assertEqual(given, [0, 0, 2, 4, 3, 0, 1, 0, 1])

    def test_one_to_four_words_in_the_order_of_asking(self):
        told = {1: WORD_1, 2: WORD_2, 3: WORD_3, 9: WORD_9}
        for words in ((1,), (2,), (3,), (9,), (3, 1), (1, 3), (9, 2, 1), (3, 1, 9, 2), (2, 9, 1, 3), (1, 2, 3, 9)):
            given = last(*TEXTS, ask(*[(word, 1) for word in words]), why(1))
            self.assertEqual(given, [number for word in words for number in told[word]], words)

    def test_each_text_has_its_own(self):
        # Text 2: L 2, how dense 60 / (18 + 42), density 1, how full 1.
        given = run(*TEXTS, ask((3, 1), (1, 1)), why(2), why(3))[-2:]
        self.assertEqual(given, [[0, 0, 1, 2, 1, 0, 1, 0, 1] + [0, 1, 2, 4, 3, 1, 1, 1, 1],
                                 [0, 0, 1, 2, 1, 0, 1, 0, 1] + [0, 0, 2, 4, 3, 0, 1, 0, 1]])

    def test_weights_and_priors_are_not_in_it(self):
        for weight, prior in ((1, 0), (10, 0), (1, 100), (7, 33)):
            self.assertEqual(last(put(1, prior, [5], [5]), ask((5, weight)), why(1)), [1, 1, 1, 1, 1, 4, 1, 22, 13])

    def test_other_a_b_c_d(self):
        # a 0: how dense 1 and 1; density 2 + 5; b 4: how full 98/74.
        self.assertEqual(last(*TWO_TEXTS, tune(0, 4, 2, 5), why(1)), [1, 1, 1, 3, 2, 7, 1, 49, 37])
        # a 10: how dense 3/4 and 2; density 3/2 + 10; b 4: how full 161/119.
        self.assertEqual(last(*TWO_TEXTS, tune(10, 4, 2, 5), why(1)), [1, 1, 1, 3, 2, 23, 2, 23, 17])
        # b 100: how full 1265/215.
        self.assertEqual(last(*TWO_TEXTS, tune(10, 100, 2, 5), why(1)), [1, 1, 1, 3, 2, 23, 2, 253, 43])
        # c 10, d 1: density 15/2 + 2, how full (19/2 * 11) / 96.
        self.assertEqual(last(*TWO_TEXTS, tune(10, 1, 10, 1), why(1)), [1, 1, 1, 3, 2, 19, 2, 209, 192])

    def test_lowest_terms(self):
        shortened = 0
        for count in range(1, 13):
            head = [5] * count + [6] * (12 - count)
            given = last(put(1, 0, head, [5, 6]), put(2, 0, [7], [8] * 4), put(3, 0, [], [5]), ask((5, 1)), why(1))
            # Heads: A 13, L 12, N 3; bodies: A 7, L 2, N 3. How rare 4/3.
            x = 3 * Fraction(130 * count, 39 + 252) + Fraction(70, 21 + 42)
            full = x * 22 / (10 * x + 12)
            self.assertEqual(given, [count, 1, 2, 4, 3, x.numerator, x.denominator, full.numerator, full.denominator])
            shortened += x.denominator < (39 + 252) * 63
        self.assertGreater(shortened, 0)

    def test_how_rare_in_lowest_terms(self):
        for texts in range(1, 13):
            for having in range(1, texts + 1):
                calls = [put(k, 0, [], [5 if k <= having else 6]) for k in range(1, texts + 1)]
                rare = Fraction(texts + 1, having + 1)
                self.assertEqual(last(*calls, ask((5, 1)), why(1))[2:5], [having, rare.numerator, rare.denominator])

    def test_changes_nothing(self):
        # Heads: A 3, L 2, N 3; bodies: A 5, L 3, N 3; a 6, b 20, c 4, d 2. Word 5: how dense 30/48, density 5/2,
        # how full 75/45. Word 8: how dense 50/74, density 50/37, how full 1500 / (500 + 740).
        assert_changes_nothing(self, why(1), [1, 0, 2, 4, 3, 5, 2, 5, 3, 0, 1, 2, 4, 3, 50, 37, 75, 62])

    def test_no_such_text(self):
        for k in (0, 2, 3, 29, 31, LARGEST):
            assert_refused(self, why(k), -3)

    def test_no_such_text_where_nothing_is_asked(self):
        self.assertEqual(run(why(1), put(1, 0, [5], []), why(2), why(LARGEST)), [[-3], [1], [-3], [-3]])

    def test_after_drop(self):
        # Heads: A 1, L 1, N 2: how dense 10/17, density 30/17, how full 660 / (300 + 204).
        given = run(put(1, 0, [5], []), put(2, 0, [], []), ask((5, 1)), why(1), drop(1), why(1), why(2))
        self.assertEqual(given[3:], [[1, 0, 1, 3, 2, 30, 17, 55, 42], [1], [-3], [0, 0, 0, 2, 1, 0, 1, 0, 1]])


class Parts(unittest.TestCase):
    # What the words give text 1, without the prior: 440/126, 2200/151 and 220/101.
    GIVEN = {(1, 2): 3492063, (2, 5): 14569536, (3, 1): 2178217, (9, 7): 0}

    def test_nothing_asked(self):
        self.assertEqual(run(put(1, 0, [5], [6]), parts(1)), [[1], [0]])
        self.assertEqual(run(put(1, 0, [5], [6]), ask((5, 1)), ask(), parts(1))[-1], [0])

    def test_one_to_four_words_in_the_order_of_asking(self):
        one, two, three, nine = (1, 2), (2, 5), (3, 1), (9, 7)
        for pairs in ([one], [two], [three], [nine], [three, one], [one, three], [nine, two, one],
                      [three, one, nine, two], [two, nine, three, one]):
            self.assertEqual(last(*TEXTS, ask(*pairs), parts(1)), [len(pairs)] + [self.GIVEN[pair] for pair in pairs])

    def test_a_word_it_does_not_have_gives_0(self):
        # The word 1 gives text 2 what its weight and how rare it is make.
        self.assertEqual(last(*TEXTS, ask((3, 1), (1, 3), (6, 10)), parts(2)), [3, 0, 4000000, 0])
        self.assertEqual(last(put(1, 0, [], []), ask((3, 1), (1, 3)), parts(1)), [2, 0, 0])

    def test_prior_is_not_in_it(self):
        for prior in (0, 1, 50, 100):
            self.assertEqual(last(put(1, prior, [5], []), ask((5, 1)), parts(1)), [1, 1571428], prior)

    def test_weight_is_in_it(self):
        for weight in range(1, 11):
            self.assertEqual(last(put(1, 0, [5], []), ask((5, weight)), parts(1)), [1, 11 * weight * 1000000 // 7])

    def test_rounded_down_one_by_one(self):
        # 22/13 is 1.6923076923.. and 11/7 is 1.5714285714..
        self.assertEqual(last(put(1, 0, [5], [5]), ask((5, 1)), parts(1)), [1, 1692307])
        self.assertEqual(last(put(1, 0, [5], []), ask((5, 10)), parts(1)), [1, 15714285])

    def test_other_a_b_c_d(self):
        # How rare 3/2, how full as told for why.
        for settings, full in ((tune(0, 4, 2, 5), Fraction(49, 37)), (tune(10, 4, 2, 5), Fraction(23, 17)),
                               (tune(10, 100, 2, 5), Fraction(253, 43)), (tune(10, 1, 10, 1), Fraction(209, 192))):
            self.assertEqual(last(*TWO_TEXTS, settings, parts(1)), [1, int(full * 3 / 2 * 1000000)])

    def test_changes_nothing(self):
        # Weights 2 and 3, how rare 4/3, how full 5/3 and 75/62, as told for why.
        assert_changes_nothing(self, parts(1), [2, 40 * 1000000 // 9, 300 * 1000000 // 62])

    def test_no_such_text(self):
        for k in (0, 2, 3, 29, 31, LARGEST):
            assert_refused(self, parts(k), -3)

    def test_no_such_text_where_nothing_is_asked(self):
        self.assertEqual(run(parts(1), put(1, 0, [5], []), parts(2), parts(LARGEST)), [[-3], [1], [-3], [-3]])

    def test_after_drop(self):
        self.assertEqual(run(put(1, 0, [5], []), ask((5, 1)), parts(1), drop(1), parts(1))[2:],
                         [[1, 1571428], [0], [-3]])


if __name__ == "__main__":
    unittest.main()
