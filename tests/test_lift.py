"""Promise 3: lift, how many words of a body have to be changed, and its refusals."""

import random
import unittest

from desk_calls import (LARGEST, ask, assert_changes_nothing, assert_refused, best, drop, last, lift, line, put, run,
                        tune)
from markdesk.ranks import answers


def changed(body, asked, w, count):
    """The body with its first words that are not asked, count of them, changed to w."""
    body = list(body)
    places = [at for at, word in enumerate(body) if word not in asked]
    for at in places[:count]:
        body[at] = w
    return body


class Lift(unittest.TestCase):
    def test_first_already(self):
        self.assertEqual(last(put(1, 0, [5], [6]), ask((5, 1)), lift(1, 5)), [0])
        self.assertEqual(last(put(1, 0, [], [5, 6, 7]), put(2, 0, [], [5, 6, 7]), ask((5, 1)), lift(1, 5)), [0])
        # The first by another word than the one asked about.
        self.assertEqual(last(put(1, 0, [], [6, 7]), ask((5, 1), (6, 1)), lift(1, 5)), [0])

    def test_first_already_without_a_word_to_change(self):
        self.assertEqual(last(put(1, 0, [5], []), put(2, 0, [], [5]), ask((5, 1)), lift(1, 5)), [0])
        self.assertEqual(last(put(1, 0, [], [5, 5]), ask((5, 1)), lift(1, 5)), [0])

    def test_one(self):
        self.assertEqual(last(put(1, 0, [], [5, 6, 7]), put(2, 1, [], [5, 6, 7]), ask((5, 1)), lift(1, 5)), [1])

    def test_one_and_more(self):
        # All bodies are as long, so the oftener 5 comes the greater the mark; of marks alike the key 1 is first.
        for often in range(1, 13):
            calls = (put(1, 0, [], [6] * 12), put(2, 0, [], [5] * often + [7] * (12 - often)), ask((5, 1)))
            self.assertEqual(last(*calls, lift(1, 5)), [often], often)

    def test_some_are_there_already(self):
        for there in range(1, 7):
            calls = (put(1, 0, [], [6] * (6 - there) + [5] * there), put(2, 0, [], [5] * 6), ask((5, 1)))
            self.assertEqual(last(*calls, lift(1, 5)), [6 - there], there)

    def test_alike_by_the_lower_key(self):
        for often in range(1, 12):
            other = [5] * often + [7] * (12 - often)
            # The lower key is first with as many, the higher one needs one more.
            self.assertEqual(last(put(3, 0, [], [6] * 12), put(4, 0, [], other), ask((5, 1)), lift(3, 5)), [often])
            self.assertEqual(last(put(5, 0, [], [6] * 12), put(4, 0, [], other), ask((5, 1)), lift(5, 5)), [often + 1])
        self.assertEqual(last(put(5, 0, [], [6] * 12), put(4, 0, [], [5] * 12), ask((5, 1)), lift(5, 5)), [-6])

    def test_all_that_may_be_changed(self):
        self.assertEqual(last(put(3, 0, [], [6, 7, 8]), put(2, 0, [], [5, 5, 9]), ask((5, 1)), lift(3, 5)), [3])
        self.assertEqual(last(put(1, 0, [], [6, 4, 8]), put(2, 0, [], [5, 5, 4]), ask((5, 1), (4, 1)), lift(1, 5)), [2])

    def test_not_ranked_at_first(self):
        self.assertEqual(last(put(1, 0, [], [6, 7]), ask((5, 1)), lift(1, 5)), [1])
        self.assertEqual(last(put(1, 0, [6], [6, 7]), put(2, 0, [], [6, 7]), ask((5, 1)), lift(2, 5)), [1])
        self.assertEqual(last(put(3, 1, [6], [7]), put(2, 0, [], [5]), ask((5, 1)), lift(3, 5)), [1])

    def test_asked_words_of_the_body_stay(self):
        # Were 6 changed as well, the text would lose what 6 gives it, and would never be the first.
        calls = (put(1, 0, [], [6, 7]), put(2, 0, [], [6, 5]), ask((5, 1), (6, 10)))
        self.assertEqual(last(*calls, lift(1, 5)), [1])
        calls = (put(3, 0, [], [6, 7]), put(2, 0, [], [6, 5]), ask((5, 1), (6, 10)))
        self.assertEqual(last(*calls, lift(3, 5)), [-6])

    def test_asked_words_are_passed_over_and_not_counted(self):
        # Of 6 9 5 8 6 7 only 9, 8 and 7 may be changed.
        body = [6, 9, 5, 8, 6, 7]
        for often, answer in ((1, 0), (2, 1), (3, 2), (4, 3), (5, -6)):
            other = [5] * often + [10] * (6 - often)
            calls = (put(1, 0, [], body), put(2, 0, [6, 6], other), ask((5, 10), (6, 1)), tune(0, 100, 1, 1))
            self.assertEqual(last(*calls, lift(1, 5)), [answer], often)

    def test_a_word_of_the_head_is_not_changed(self):
        calls = (put(1, 0, [7, 7], [6]), put(2, 0, [5], [6]), ask((5, 1)))
        self.assertEqual(last(*calls, lift(1, 5)), [-6])

    def test_the_word_asked_about_alone_is_put_in(self):
        # 5 weighs 1 and 6 weighs 10: two 6 are enough, but no count of 5.
        calls = (put(3, 0, [], [7, 7, 7]), put(2, 0, [], [6, 5, 8]), ask((5, 1), (6, 10)))
        self.assertEqual(run(*calls, lift(3, 6), lift(3, 5))[-2:], [[2], [-6]])

    def test_not_enough(self):
        # Head 5 5 5: density 90/17; body 5: density 10/17.
        self.assertEqual(last(put(1, 0, [], [6]), put(2, 0, [5, 5, 5], [6]), ask((5, 1)), lift(1, 5)), [-6])

    def test_empty_body(self):
        self.assertEqual(last(put(1, 0, [], []), ask((5, 1)), lift(1, 5)), [-6])
        self.assertEqual(last(put(1, 0, [6], []), put(2, 0, [5], []), ask((5, 1)), lift(1, 5)), [-6])

    def test_each_word_of_the_body_asked(self):
        calls = (put(3, 0, [], [5, 6, 6]), put(2, 0, [5], [5, 6, 6]), ask((5, 1), (6, 2)))
        self.assertEqual(run(*calls, lift(3, 5), lift(3, 6))[-2:], [[-6], [-6]])

    def test_prior_weight_and_settings_count(self):
        texts = (put(1, 0, [], [6] * 6), put(2, 50, [], [5, 5, 6, 6, 6, 6]))
        # a 0: how dense n; d 1, b 100: how full 110 n / (10 n + 100); twice: 11/6, with the prior 11/4.
        # n 3: 33/13, less; n 4: 22/7, more.
        self.assertEqual(last(*texts, ask((5, 1)), tune(0, 100, 1, 1), lift(1, 5)), [4])
        # b 1: how full 11 n / (10 n + 1), never above 1.1; twice: 22/21, with the prior 11/7.
        self.assertEqual(last(*texts, ask((5, 1)), tune(0, 1, 1, 1), lift(1, 5)), [-6])

    def test_after_other_calls(self):
        calls = (put(1, 0, [], [6, 6, 6]), put(2, 0, [], [5, 5, 6]), ask((5, 1)))
        given = run(*calls, lift(1, 5), drop(2), lift(1, 5), lift(2, 5), ask((6, 1)), lift(1, 6), lift(1, 5))
        self.assertEqual(given[3:], [[2], [1], [1], [-3], [1], [0], [-2]])


class LessRare(unittest.TestCase):
    # Bodies: A 4, L 2, N 2: how dense a word is there is how often it comes; how full 1 for one, 11/8 for two.
    # How rare 5 is: 3/2 while one text has it, 1 if both have.

    def test_what_it_gives_this_text_gets_less(self):
        # Two 5 give 10 * 11/8 * how rare; the other has 10 * how rare + weight * 3/2.
        # Were 5 as rare as before, text 1 would pass it with the weight 3 too.
        for weight, answer in ((2, 2), (3, -6)):
            calls = (put(1, 0, [], [8, 8]), put(2, 0, [], [5, 7]), ask((5, 10), (7, weight)))
            self.assertEqual(last(*calls, lift(1, 5)), [answer], weight)

    def test_what_it_gives_the_other_text_gets_less(self):
        # With one 5 it has 10 * how rare + weight * 3/2; the other has 10 * 11/8 * how rare.
        # Were 5 as rare as before, text 1 would not pass it with the weight 3 either.
        for weight, answer in ((2, -6), (3, 1)):
            calls = (put(1, 0, [], [6, 8]), put(2, 0, [], [5, 5]), ask((5, 10), (6, weight)))
            self.assertEqual(last(*calls, lift(1, 5)), [answer], weight)

    def test_a_third_text_is_not_touched(self):
        # A 6, N 3: 5 is as rare as 2, then 4/3. Text 2 falls from 20 to 40/3; text 3 keeps twice the weight.
        # With two 5 text 1 has 10 * 4/3 * 11/8 = 55/3.
        for weight, answer in ((9, 2), (10, -6)):
            calls = (put(1, 0, [], [8, 8]), put(2, 0, [], [5, 9]), put(3, 0, [], [7, 9]), ask((5, 10), (7, weight)))
            self.assertEqual(last(*calls, lift(1, 5)), [answer], weight)

    def test_a_word_of_the_head_makes_it_no_less_rare(self):
        # Text 1 has 5 already: how rare it is stays 3/3.
        calls = (put(1, 0, [5], [8, 8]), put(2, 0, [5], [5, 7]), ask((5, 10)))
        self.assertEqual(last(*calls, lift(1, 5)), [1])


class EachCountTried(unittest.TestCase):
    def first_by_best(self, texts, pairs, settings, key):
        calls = [put(k, *text) for k, text in texts.items()]
        return last(*calls, ask(*pairs), settings, best(1))[1:2] == [key]

    def tried(self, texts, pairs, settings, key, w):
        """For each count from 0 on: is the text the first, by best, if so changed and put in its place?"""
        asked = [word for word, weight in pairs]
        prior, head, body = texts[key]
        most = len([word for word in body if word not in asked])
        return [self.first_by_best({**texts, key: (prior, head, changed(body, asked, w, count))}, pairs, settings, key)
                for count in range(most + 1)]

    def test_lists(self):
        kinds = {"none": 0, "some": 0, "never": 0}
        for seed in range(300):
            source = random.Random(seed)
            most_word = source.choice((3, 5, 9))

            def words(most):
                return [source.randint(1, most_word) for at in range(source.randint(0, most))]

            texts = {k: (source.choice((0, 20, 100)), words(3), words(12))
                     for k in source.sample(range(1, 31), source.randint(1, 5))}
            pairs = [(word, source.randint(1, 10)) for word in source.sample(range(1, most_word + 1), 2)]
            settings = tune(source.randint(0, 10), source.randint(1, 100), source.randint(1, 10), source.randint(1, 10))
            key = source.choice(list(texts))
            tried = self.tried(texts, pairs, settings, key, pairs[0][0])
            least = tried.index(True) if True in tried else -6
            calls = [put(k, *text) for k, text in texts.items()]
            self.assertEqual(last(*calls, ask(*pairs), settings, lift(key, pairs[0][0])), [least], seed)
            # More changed words make this text's mark no less and no other's more: what is enough stays so.
            self.assertEqual(tried, sorted(tried), seed)
            kinds["never" if least == -6 else "some" if least else "none"] += 1
        # Without many answers of each kind these lists would tell little.
        self.assertGreater(min(kinds.values()), 30, kinds)


class AllAsItWas(unittest.TestCase):
    SETUP = (put(1, 0, [], [6, 7, 6, 8]), put(2, 0, [], [5, 5, 7, 9]), put(4, 0, [5, 5, 5], [9]), put(30, 0, [], []),
             tune(6, 20, 4, 2), ask((5, 2), (8, 1)))

    def test_after_0(self):
        assert_changes_nothing(self, lift(4, 5), [0], self.SETUP)

    def test_after_1_and_more(self):
        setup = self.SETUP[:2] + self.SETUP[3:]
        assert_changes_nothing(self, lift(2, 8), [0], setup)
        assert_changes_nothing(self, lift(1, 5), [1], setup)
        # Without what 8 gives it text 1 has to have as many 5 as text 2.
        assert_changes_nothing(self, lift(1, 5), [2], setup[:-1] + (ask((5, 2)),))

    def test_after_minus_6(self):
        assert_refused(self, lift(30, 5), -6, self.SETUP)
        # With three 5 and one 8 text 1 has about 8.1, text 4 with this prior about 10.2.
        assert_refused(self, lift(1, 5), -6, self.SETUP + (put(4, 100, [5, 5, 5], [9]),))

    def test_after_minus_2_and_minus_3(self):
        assert_refused(self, lift(1, 6), -2, self.SETUP)
        assert_refused(self, lift(3, 5), -3, self.SETUP)

    def test_same_again(self):
        given = run(*self.SETUP, lift(1, 5), lift(1, 5), lift(2, 5), lift(1, 5), lift(2, 5), best(9))
        self.assertEqual(given[6], given[7])
        self.assertEqual(given[6], given[9])
        self.assertEqual(given[8], given[10])
        self.assertEqual(given[11], last(*self.SETUP, best(9)))


class LiftRefused(unittest.TestCase):
    def test_no_such_text(self):
        for k in (0, 2, 3, 29, 31, LARGEST):
            assert_refused(self, lift(k, 5), -3)

    def test_no_such_text_ahead_of_not_asked(self):
        for k in (0, 2, 31, LARGEST):
            for w in (0, 9, 31, LARGEST):
                assert_refused(self, lift(k, w), -3)
        self.assertEqual(run(lift(1, 5)), [[-3]])

    def test_not_asked(self):
        for w in (0, 1, 6, 7, 9, 30, 31, LARGEST):
            for k in (1, 4, 30):
                assert_refused(self, lift(k, w), -2)

    def test_weight_is_not_a_word(self):
        # 2 and 3 are the weights of what is asked.
        for w in (2, 3):
            assert_refused(self, lift(1, w), -2)

    def test_nothing_asked(self):
        self.assertEqual(run(put(1, 0, [5], [5]), lift(1, 5))[-1], [-2])
        self.assertEqual(run(put(1, 0, [5], [5]), ask((5, 1)), ask(), lift(1, 5))[-1], [-2])

    def test_not_asked_ahead_of_never_first(self):
        # With an empty body, or with nothing but asked words, nothing can be changed.
        calls = (put(1, 0, [], []), put(3, 0, [], [5]), put(2, 0, [5], [5]), ask((5, 1)))
        given = run(*calls, lift(1, 6), lift(1, 5), lift(3, 6), lift(3, 5), lift(3, LARGEST))[-5:]
        self.assertEqual(given, [[-2], [-6], [-2], [-6], [-2]])

    def test_not_asked_also_where_it_is_first(self):
        self.assertEqual(last(put(1, 0, [5], [6]), ask((5, 1)), lift(1, 6)), [-2])

    def test_after_drop(self):
        self.assertEqual(last(put(1, 0, [5], [6]), ask((5, 1)), drop(1), lift(1, 5)), [-3])

    def test_behind_its_count(self):
        self.assertEqual(answers(line([put(1, 0, [], [6]), ask((5, 1)), lift(1, 5), lift(2, 5), lift(1, 6)])),
                         [1, 1, 1, 0, 1, 1, 1, -3, 1, -2])


if __name__ == "__main__":
    unittest.main()
