"""The calls on a desk, handed over and answered as lists of whole numbers."""

from markdesk.reckon import Desk, Text, density, how_full, how_many_have, how_rare, is_asked, is_first_if_changed
from markdesk.reckon import is_greater, lowest, mark_of, not_asked_in, ranked, shown, what_it_gives

PUT = 0
DROP = 1
TUNE = 2
ASK = 3
MARK = 4
BEST = 5
WHY = 6
VERSUS = 7
PLACE = 8
LIFT = 9

# By the number of a call, 0 to 10: how many whole numbers stand between it and its row, or the next call.
PLAIN_COUNTS = (3, 1, 4, 0, 1, 1, 1, 2, 1, 2, 1)

# Refusals.
OUT_OF_BOUNDS = -1
NOT_ASKED = -2
NO_SUCH_TEXT = -3
NEVER_FIRST = -6

MOST_KEYS = 30
MOST_PRIOR = 100
MOST_IN_PART = 12
MOST_WORDS = 30
MOST_ASKED = 4
MOST_WEIGHT = 10


def is_within(number, least, most):
    return least <= number and number <= most


def are_words(words):
    return all([is_within(word, 1, MOST_WORDS) for word in words])


def may_be_put(key, prior, head_length, words):
    if not is_within(key, 1, MOST_KEYS) or prior > MOST_PRIOR:
        return False
    if head_length > len(words):
        return False
    if head_length > MOST_IN_PART or len(words) - head_length > MOST_IN_PART:
        return False
    return are_words(words)


def put(desk, key, prior, head_length, words):
    if not may_be_put(key, prior, head_length, words):
        return [OUT_OF_BOUNDS]
    desk.texts[key] = Text(prior, words[:head_length], words[head_length:])
    return [len(desk.texts)]


def drop(desk, key):
    if key not in desk.texts:
        return [NO_SUCH_TEXT]
    desk.texts.pop(key)
    return [len(desk.texts)]


def may_be_tuned(a, b, c, d):
    return a <= 10 and is_within(b, 1, 100) and is_within(c, 1, 10) and is_within(d, 1, 10)


def tune(desk, a, b, c, d):
    if not may_be_tuned(a, b, c, d):
        return [OUT_OF_BOUNDS]
    desk.a = a
    desk.b = b
    desk.c = c
    desk.d = d
    return [0]


def may_be_asked(words, weights):
    if len(words) != len(weights) or len(words) > MOST_ASKED:
        return False
    if not are_words(words) or len(set(words)) < len(words):
        return False
    return all([is_within(weight, 1, MOST_WEIGHT) for weight in weights])


def ask(desk, by_turns):
    """Take what is asked: by_turns has a word and its weight by turns."""
    words = by_turns[::2]
    weights = by_turns[1::2]
    if not may_be_asked(words, weights):
        return [OUT_OF_BOUNDS]
    desk.asked = list(zip(words, weights))
    return [len(ranked(desk))]


def mark(desk, key):
    if key not in desk.texts:
        return [NO_SUCH_TEXT]
    return [shown(mark_of(desk, desk.texts[key]))]


def best(desk, most):
    first = ranked(desk)[:most]
    answer = [len(first)]
    for key, exact_mark in first:
        answer.extend([key, shown(exact_mark)])
    return answer


def reasons(desk, word, text):
    """Three counts and three fractions: why an asked word gives the text what it gives."""
    dense = density(desk, word, text)
    counts = [text.head.count(word), text.body.count(word), how_many_have(desk, word)]
    return counts + lowest(how_rare(desk, word)) + lowest(dense) + lowest(how_full(desk, dense))


def why(desk, key):
    if key not in desk.texts:
        return [NO_SUCH_TEXT]
    answer = []
    for word, weight in desk.asked:
        answer.extend(reasons(desk, word, desk.texts[key]))
    return answer


def versus(desk, one, other):
    if one not in desk.texts or other not in desk.texts:
        return [NO_SUCH_TEXT]
    mark_of_one = mark_of(desk, desk.texts[one])
    mark_of_other = mark_of(desk, desk.texts[other])
    if is_greater(mark_of_one, mark_of_other):
        return [1]
    if is_greater(mark_of_other, mark_of_one):
        return [2]
    return [0]


def place(desk, key):
    keys = [ranked_key for ranked_key, exact_mark in ranked(desk)]
    if key not in keys:
        return [NO_SUCH_TEXT]
    return [keys.index(key) + 1]


def lift(desk, key, word):
    if key not in desk.texts:
        return [NO_SUCH_TEXT]
    if not is_asked(desk, word):
        return [NOT_ASKED]
    most = not_asked_in(desk, desk.texts[key].body)
    # The fewest first: the first count that is enough is the least.
    for how_many in range(most + 1):
        if is_first_if_changed(desk, key, word, how_many):
            return [how_many]
    return [NEVER_FIRST]


def parts(desk, key):
    if key not in desk.texts:
        return [NO_SUCH_TEXT]
    answer = [len(desk.asked)]
    for word, weight in desk.asked:
        answer.append(shown(what_it_gives(desk, word, weight, desk.texts[key])))
    return answer


def answer_of(desk, number, plain, row):
    """Carry out one call, told as its number, its whole numbers and its row."""
    if number == PUT:
        return put(desk, plain[0], plain[1], plain[2], row)
    if number == DROP:
        return drop(desk, plain[0])
    if number == TUNE:
        return tune(desk, plain[0], plain[1], plain[2], plain[3])
    if number == ASK:
        return ask(desk, row)
    if number == MARK:
        return mark(desk, plain[0])
    if number == BEST:
        return best(desk, plain[0])
    if number == WHY:
        return why(desk, plain[0])
    if number == VERSUS:
        return versus(desk, plain[0], plain[1])
    if number == PLACE:
        return place(desk, plain[0])
    if number == LIFT:
        return lift(desk, plain[0], plain[1])
    # Only parts is left: no other number is handed in.
    return parts(desk, plain[0])


def end_of_call(calls, number, plain_end):
    """Where the call ends whose whole numbers end at plain_end."""
    if number == PUT or number == ASK:
        return plain_end + 1 + calls[plain_end]
    return plain_end


def answers(calls):
    """The answers to calls, one behind another, each with how many numbers it has ahead of it."""
    desk = Desk()
    given = []
    at = 0
    while at < len(calls):
        number = calls[at]
        plain_end = at + 1 + PLAIN_COUNTS[number]
        end = end_of_call(calls, number, plain_end)
        # Where a call has no row this slice is empty.
        row = calls[plain_end + 1:end]
        answer = answer_of(desk, number, calls[at + 1:plain_end], row)
        given.append(len(answer))
        given.extend(answer)
        at = end
    return given
