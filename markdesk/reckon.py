"""What a desk holds, and what is reckoned from it.

A fraction is a tuple of two whole numbers: above the line, and below it (never less than 1).
"""

MILLION = 1000000


class Text:
    """One text: its prior, and the words of its two parts."""

    def __init__(self, prior, head, body):
        self.prior = prior
        self.head = head
        self.body = body


class Desk:
    """Texts by their keys, pairs of an asked word and its weight, and the numbers a, b, c, d of the document."""

    def __init__(self):
        self.texts = {}
        self.asked = []
        self.a = 7
        self.b = 12
        self.c = 3
        self.d = 1


def plus(x, y):
    return (x[0] * y[1] + y[0] * x[1], x[1] * y[1])


def times(x, y):
    return (x[0] * y[0], x[1] * y[1])


def is_greater(x, y):
    # Nothing below the line is less than 1, so multiplying by it keeps the order.
    return x[0] * y[1] > y[0] * x[1]


def shown(x):
    """How many whole millionths x has."""
    return x[0] * MILLION // x[1]


def greatest_divisor(x, y):
    """The greatest whole number that divides both x and y; y is not 0."""
    while y > 0:
        rest = x % y
        x = y
        y = rest
    return x


def lowest(x):
    """What is above and what is below the line of x in lowest terms, as a list."""
    divisor = greatest_divisor(x[0], x[1])
    return [x[0] // divisor, x[1] // divisor]


def has_word(text, word):
    return word in text.head or word in text.body


def how_many_have(desk, word):
    return len([text for text in desk.texts.values() if has_word(text, word)])


def words_in_heads(desk):
    return sum([len(text.head) for text in desk.texts.values()])


def words_in_bodies(desk):
    return sum([len(text.body) for text in desk.texts.values()])


def how_dense(desk, word, part, words_in_all):
    """How dense word is in part; words_in_all is how many words that part has in all texts together."""
    often = part.count(word)
    if often == 0:
        # Without this the line below could be 0: an empty part, in a desk where all such parts are empty.
        return (0, 1)
    a = desk.a
    return (10 * words_in_all * often, (10 - a) * words_in_all + a * len(part) * len(desk.texts))


def density(desk, word, text):
    in_head = how_dense(desk, word, text.head, words_in_heads(desk))
    in_body = how_dense(desk, word, text.body, words_in_bodies(desk))
    return plus(times((desk.c, 1), in_head), times((desk.d, 1), in_body))


def how_full(desk, x):
    # Above and below are both multiplied by what is below the line of x.
    return (x[0] * (desk.b + 10), 10 * x[0] + desk.b * x[1])


def how_rare(desk, word):
    return (len(desk.texts) + 1, how_many_have(desk, word) + 1)


def what_it_gives(desk, word, weight, text):
    """What an asked word gives the text."""
    full = how_full(desk, density(desk, word, text))
    return times((weight, 1), times(how_rare(desk, word), full))


def mark_of(desk, text):
    together = (0, 1)
    for word, weight in desk.asked:
        together = plus(together, what_it_gives(desk, word, weight, text))
    return times(together, (100 + text.prior, 100))


def has_asked_word(desk, text):
    return any([has_word(text, word) for word, weight in desk.asked])


def place_among(better_first, mark):
    """Where a text of this mark goes, behind all whose marks are as great or greater."""
    at = len(better_first)
    while at > 0 and is_greater(mark, better_first[at - 1][1]):
        at = at - 1
    return at


def ranked(desk):
    """Key and mark of each ranked text, the best first."""
    better_first = []
    # The lower keys go in first, so that of marks alike the lower key stays ahead.
    for key in sorted(desk.texts):
        text = desk.texts[key]
        if has_asked_word(desk, text):
            mark = mark_of(desk, text)
            better_first.insert(place_among(better_first, mark), (key, mark))
    return better_first


def is_first(desk, key):
    better_first = ranked(desk)
    return len(better_first) > 0 and better_first[0][0] == key


def is_asked(desk, word):
    return word in [asked_word for asked_word, weight in desk.asked]


def not_asked_in(desk, body):
    """How many words of body are not asked: these are the ones that a lift may change."""
    return len([word for word in body if not is_asked(desk, word)])


def body_changed(desk, body, word, how_many):
    """A copy of body; of its words that are not asked the first how_many are word there."""
    changed = []
    left = how_many
    for old in body:
        if left > 0 and not is_asked(desk, old):
            changed.append(word)
            left = left - 1
        else:
            changed.append(old)
    return changed


def desk_with(desk, key, text):
    """Another desk, like this one but for the text of key, so that trying a change leaves this one as it is."""
    other = Desk()
    other.texts = dict(desk.texts)
    other.texts[key] = text
    other.asked = list(desk.asked)
    other.a = desk.a
    other.b = desk.b
    other.c = desk.c
    other.d = desk.d
    return other


def is_first_if_changed(desk, key, word, how_many):
    """Would text key be the first if the first how_many words of its body that are not asked were word?"""
    text = desk.texts[key]
    changed = Text(text.prior, text.head, body_changed(desk, text.body, word, how_many))
    return is_first(desk_with(desk, key, changed), key)
