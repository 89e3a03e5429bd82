"""Many lists of calls, made from fixed seeds, against the document written once more with Python's fractions."""

import random
import unittest
from fractions import Fraction

from desk_calls import (LARGEST, ask_row, best, drop, lift, line, mark, parted, parts, place, put_row, tune, versus,
                        why)
from markdesk.ranks import answers


class Model:
    def __init__(self):
        self.texts = {}
        self.pairs = []
        self.tuning = (7, 12, 3, 1)

    def put(self, k, p, n, words):
        head, body = words[:n], words[n:]
        wrong = (k not in range(1, 31) or p > 100 or n > len(words) or len(head) > 12 or len(body) > 12
                 or not set(words) <= set(range(1, 31)))
        if wrong:
            return [-1]
        self.texts[k] = (p, (head, body))
        return [len(self.texts)]

    def drop(self, k):
        if self.texts.pop(k, None) is None:
            return [-3]
        return [len(self.texts)]

    def tune(self, a, b, c, d):
        if a > 10 or b not in range(1, 101) or c not in range(1, 11) or d not in range(1, 11):
            return [-1]
        self.tuning = (a, b, c, d)
        return [0]

    def ask(self, row):
        words, weights = row[::2], row[1::2]
        wrong = (len(row) % 2 or len(words) > 4 or not set(words) <= set(range(1, 31))
                 or len(set(words)) != len(words) or not set(weights) <= set(range(1, 11)))
        if wrong:
            return [-1]
        self.pairs = list(zip(words, weights))
        return [len(self.ranked())]

    def having(self, word):
        return sum(1 for prior, halves in self.texts.values() if word in halves[0] + halves[1])

    def rare(self, word):
        return Fraction(len(self.texts) + 1, self.having(word) + 1)

    def density(self, k, word):
        a, b, c, d = self.tuning
        halves = self.texts[k][1]
        x = Fraction(0)
        for which, factor in ((0, c), (1, d)):
            often = halves[which].count(word)
            together = sum(len(other[1][which]) for other in self.texts.values())
            if often:
                below = (10 - a) * together + a * len(halves[which]) * len(self.texts)
                x += factor * Fraction(10 * together * often, below)
        return x

    def full(self, k, word):
        b = self.tuning[1]
        x = self.density(k, word)
        return x * (b + 10) / (10 * x + b)

    def gives(self, k, word, weight):
        return weight * self.rare(word) * self.full(k, word)

    def exact_mark(self, k):
        return sum(self.gives(k, *pair) for pair in self.pairs) * Fraction(100 + self.texts[k][0], 100)

    def ranked(self):
        asked = {word for word, weight in self.pairs}
        keys = [k for k, text in self.texts.items() if asked & set(text[1][0] + text[1][1])]
        return sorted(keys, key=lambda k: (-self.exact_mark(k), k))

    def mark(self, k):
        if k not in self.texts:
            return [-3]
        return [int(self.exact_mark(k) * 1000000)]

    def best(self, n):
        keys = self.ranked()[:n]
        return [len(keys)] + [number for k in keys for number in [k] + self.mark(k)]

    def why(self, k):
        if k not in self.texts:
            return [-3]
        answer = []
        for word, weight in self.pairs:
            head, body = self.texts[k][1]
            answer += [head.count(word), body.count(word), self.having(word)]
            for fraction in (self.rare(word), self.density(k, word), self.full(k, word)):
                answer += [fraction.numerator, fraction.denominator]
        return answer

    def versus(self, i, j):
        if not {i, j} <= set(self.texts):
            return [-3]
        one, two = self.exact_mark(i), self.exact_mark(j)
        return [0 if one == two else 1 if one > two else 2]

    def place(self, k):
        places = {key: at for at, key in enumerate(self.ranked(), start=1)}
        return [places.get(k, -3)]

    def lift(self, k, w):
        asked = [word for word, weight in self.pairs]
        if k not in self.texts:
            return [-3]
        if w not in asked:
            return [-2]
        kept = self.texts[k]
        prior, (head, body) = kept
        free = [at for at, word in enumerate(body) if word not in asked]
        enough = []
        for count in range(len(free) + 1):
            self.texts[k] = (prior, (head, [w if at in free[:count] else word for at, word in enumerate(body)]))
            if self.ranked()[:1] == [k]:
                enough.append(count)
        self.texts[k] = kept
        return [min(enough, default=-6)]

    def parts(self, k):
        if k not in self.texts:
            return [-3]
        return [len(self.pairs)] + [int(self.gives(k, *pair) * 1000000) for pair in self.pairs]


def now_and_then_wrong(source, number):
    return source.choice((0, 11, 13, 31, 101, LARGEST)) if source.random() < 0.01 else number


def some_words(source, most_word):
    count = source.choice((0, 1, 2, 4, 8, 12, 16, 24)) if source.random() < 0.98 else source.randint(24, 30)
    return [now_and_then_wrong(source, source.randint(1, most_word)) for at in range(count)]


def some_row(source, most_word):
    words = source.sample(range(1, most_word + 1), min(most_word, source.randint(0, 4)))
    row = [number for word in words for number in (word, source.randint(1, 10))]
    if source.random() < 0.1:
        row = (row + [source.randint(1, 30) for at in range(source.randint(1, 12))])[:12]
    return [now_and_then_wrong(source, number) for number in row]


def some_call(source, most_key, most_word):
    """A call's name, what it is handed, and the call as numbers."""
    def key():
        return now_and_then_wrong(source, source.randint(1, most_key))

    name = source.choice(("put",) * 6 + ("drop", "tune", "ask", "ask", "mark", "best", "why", "versus", "place",
                                         "lift", "lift", "parts"))
    if name == "put":
        words = some_words(source, most_word)
        n = now_and_then_wrong(source, source.randint(min(12, max(0, len(words) - 12)), min(12, len(words))))
        given = (key(), now_and_then_wrong(source, source.choice((0, 50, 100))), n, words)
        return name, given, put_row(*given)
    if name == "tune":
        given = tuple(now_and_then_wrong(source, source.randint(least, most))
                      for least, most in ((0, 10), (1, 100), (1, 10), (1, 10)))
        return name, given, tune(*given)
    if name == "ask":
        row = some_row(source, most_word)
        return name, (row,), ask_row(row)
    if name == "best":
        n = now_and_then_wrong(source, source.randint(0, most_key + 1))
        return name, (n,), best(n)
    if name == "versus":
        given = (key(), key())
        return name, given, versus(*given)
    if name == "lift":
        given = (key(), now_and_then_wrong(source, source.randint(1, most_word)))
        return name, given, lift(*given)
    given = (key(),)
    return name, given, {"drop": drop, "mark": mark, "why": why, "place": place, "parts": parts}[name](*given)


def filled_desk(source):
    """Calls that fill a desk, then questions about texts that are there and about words that are asked."""
    most_word = source.choice((4, 6, 10))
    keys = source.sample(range(1, 31), source.randint(2, 8))
    words = source.sample(range(1, most_word + 1), source.randint(1, 4))
    row = [number for word in words for number in (word, source.randint(1, 10))]

    def some(most):
        return [source.randint(1, most_word) for at in range(source.randint(0, most))]

    told = [("ask", (row,), ask_row(row))]
    for k in keys:
        head = some(3)
        given = (k, source.choice((0, 10, 100)), len(head), head + some(12))
        told.append(("put", given, put_row(*given)))
    given = (source.randint(0, 10), source.randint(1, 100), source.randint(1, 10), source.randint(1, 10))
    told.append(("tune", given, tune(*given)))
    while len(told) < 40:
        name = source.choice(("why", "versus", "place", "lift", "lift", "lift", "parts"))
        k = source.choice(keys)
        given = {"versus": (k, source.choice(keys)), "lift": (k, source.choice(words))}.get(name, (k,))
        call = {"why": why, "versus": versus, "place": place, "lift": lift, "parts": parts}[name]
        told.append((name, given, call(*given)))
    return told


class AgainstModel(unittest.TestCase):
    def assert_as_the_model(self, told, seed):
        model = Model()
        asked_for = [getattr(model, name)(*given) for name, given, call in told]
        self.assertEqual(parted(answers(line([call for name, given, call in told]))), asked_for, seed)
        return asked_for

    def test_lists(self):
        for seed in range(400):
            source = random.Random(seed)
            most_key = source.choice((2, 5, 30))
            most_word = source.choice((2, 6, 30))
            told = [some_call(source, most_key, most_word) for at in range(source.randint(1, 40))]
            self.assert_as_the_model(told, seed)

    def test_filled_desks(self):
        lifts = {}
        for seed in range(100):
            told = filled_desk(random.Random(seed))
            asked_for = self.assert_as_the_model(told, seed)
            for call, answer in zip(told, asked_for):
                if call[0] == "lift":
                    lifts[answer[0]] = lifts.get(answer[0], 0) + 1
        # Without many answers of each kind these lists would tell little of lift.
        for answer in (-6, 0, 1, 2, 3, 4):
            self.assertGreater(lifts.get(answer, 0), 10, (answer, lifts))


if __name__ == "__main__":
    unittest.main()
