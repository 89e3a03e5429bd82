"""Many lists of calls, made from fixed seeds, against the document written once more with Python's fractions."""

import random
import unittest
from fractions import Fraction

from desk_calls import LARGEST, ask_row, best, drop, line, mark, parted, put_row, tune
from markdesk.ranks import answers


class Model:
    def __init__(self):
        self.texts = {}
        self.pairs = []
        self.tuning = (7, 12, 3, 1)

    def put(self, k, p, n, words):
        head, body = words[:n], words[n:]
        wrong = (k not in range(1, 31) or p > 100 or n > len(words) or len(head) > 12 or len(body) > 12
                 or not set(words) <= set(range(1, 31)))
        if wrong:
            return [-1]
        self.texts[k] = (p, (head, body))
        return [len(self.texts)]

    def drop(self, k):
        if self.texts.pop(k, None) is None:
            return [-3]
        return [len(self.texts)]

    def tune(self, a, b, c, d):
        if a > 10 or b not in range(1, 101) or c not in range(1, 11) or d not in range(1, 11):
            return [-1]
        self.tuning = (a, b, c, d)
        return [0]

    def ask(self, row):
        words, weights = row[::2], row[1::2]
        wrong = (len(row) % 2 or len(words) > 4 or not set(words) <= set(range(1, 31))
                 or len(set(words)) != len(words) or not set(weights) <= set(range(1, 11)))
        if wrong:
            return [-1]
        self.pairs = list(zip(words, weights))
        return [len(self.ranked())]

    def exact_mark(self, k):
        a, b, c, d = self.tuning
        prior, parts = self.texts[k]
        count = len(self.texts)
        total = Fraction(0)
        for word, weight in self.pairs:
            x = Fraction(0)
            for which, factor in ((0, c), (1, d)):
                often = parts[which].count(word)
                together = sum(len(other[1][which]) for other in self.texts.values())
                if often:
                    x += factor * Fraction(10 * together * often, (10 - a) * together + a * len(parts[which]) * count)
            having = sum(1 for other in self.texts.values() if word in other[1][0] + other[1][1])
            total += weight * Fraction(count + 1, having + 1) * (x * (b + 10) / (10 * x + b))
        return total * (100 + prior) / 100

    def ranked(self):
        asked = {word for word, weight in self.pairs}
        keys = [k for k, text in self.texts.items() if asked & set(text[1][0] + text[1][1])]
        return sorted(keys, key=lambda k: (-self.exact_mark(k), k))

    def mark(self, k):
        if k not in self.texts:
            return [-3]
        return [int(self.exact_mark(k) * 1000000)]

    def best(self, n):
        keys = self.ranked()[:n]
        return [len(keys)] + [number for k in keys for number in [k] + self.mark(k)]


def now_and_then_wrong(source, number):
    return source.choice((0, 11, 13, 31, 101, LARGEST)) if source.random() < 0.01 else number


def some_words(source, most_word):
    count = source.choice((0, 1, 2, 4, 8, 12, 16, 24)) if source.random() < 0.98 else source.randint(24, 30)
    return [now_and_then_wrong(source, source.randint(1, most_word)) for at in range(count)]


def some_row(source, most_word):
    words = source.sample(range(1, most_word + 1), min(most_word, source.randint(0, 4)))
    row = [number for word in words for number in (word, source.randint(1, 10))]
    if source.random() < 0.1:
        row = (row + [source.randint(1, 30) for at in range(source.randint(1, 12))])[:12]
    return [now_and_then_wrong(source, number) for number in row]


def some_call(source, most_key, most_word):
    """A call's name, what it is handed, and the call as numbers."""
    def key():
        return now_and_then_wrong(source, source.randint(1, most_key))

    name = source.choice(("put", "put", "put", "put", "drop", "tune", "ask", "ask", "mark", "best"))
    if name == "put":
        words = some_words(source, most_word)
        n = now_and_then_wrong(source, source.randint(min(12, max(0, len(words) - 12)), min(12, len(words))))
        given = (key(), now_and_then_wrong(source, source.choice((0, 50, 100))), n, words)
        return name, given, put_row(*given)
    if name == "tune":
        given = tuple(now_and_then_wrong(source, source.randint(least, most))
                      for least, most in ((0, 10), (1, 100), (1, 10), (1, 10)))
        return name, given, tune(*given)
    if name == "ask":
        row = some_row(source, most_word)
        return name, (row,), ask_row(row)
    if name == "best":
        n = now_and_then_wrong(source, source.randint(0, most_key + 1))
        return name, (n,), best(n)
    given = (key(),)
    return name, given, {"drop": drop, "mark": mark}[name](*given)


class AgainstModel(unittest.TestCase):
    def test_lists(self):
        for seed in range(400):
            source = random.Random(seed)
            most_key = source.choice((2, 5, 30))
            most_word = source.choice((2, 6, 30))
            told = [some_call(source, most_key, most_word) for at in range(source.randint(1, 40))]
            model = Model()
            asked_for = [getattr(model, name)(*given) for name, given, call in told]
            self.assertEqual(parted(answers(line([call for name, given, call in told]))), asked_for, seed)


if __name__ == "__main__":
    unittest.main()
