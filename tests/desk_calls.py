"""How the tests write calls, and read what is answered to them."""

from markdesk.ranks import answers

LARGEST = 4294967295


def put_row(k, p, n, words):
    return [0, k, p, n, len(words)] + list(words)


def put(k, p, head, body):
    return put_row(k, p, len(head), list(head) + list(body))


def drop(k):
    return [1, k]


def tune(a, b, c, d):
    return [2, a, b, c, d]


def ask_row(row):
    return [3, len(row)] + list(row)


def ask(*pairs):
    return ask_row([number for pair in pairs for number in pair])


def mark(k):
    return [4, k]


def best(n):
    return [5, n]


def why(k):
    return [6, k]


def versus(i, j):
    return [7, i, j]


def place(k):
    return [8, k]


def lift(k, w):
    return [9, k, w]


def parts(k):
    return [10, k]


def line(calls):
    return [number for call in calls for number in call]


def parted(given):
    """The answers as one list for each call."""
    parts = []
    at = 0
    while at < len(given):
        end = at + 1 + given[at]
        if end > len(given):
            raise AssertionError("an answer is shorter than told: %r" % (given,))
        parts.append(given[at + 1:end])
        at = end
    return parts


def run(*calls):
    parts = parted(answers(line(calls)))
    if len(parts) != len(calls):
        raise AssertionError("%d answers to %d calls" % (len(parts), len(calls)))
    return parts


def last(*calls):
    return run(*calls)[-1]


SETUP = (
    put(1, 10, [5, 6], [7, 7, 8]),
    put(30, 0, [], [5, 9]),
    put(4, 100, [8], []),
    tune(6, 20, 4, 2),
    ask((5, 2), (8, 3)),
)

# What these answer depends on every text of SETUP, on a, b, c, d and on what is asked, so a change shows in it.
PROBE = (
    best(30), mark(1), mark(30), mark(4), mark(2), mark(3),
    ask((5, 1)), best(30), ask((6, 1)), best(30), ask((7, 1)), best(30),
    ask((8, 1)), best(30), ask((9, 1)), best(30), ask((1, 1)), best(30),
    drop(1), best(30),
)


def assert_changes_nothing(test, call, answer, setup=SETUP):
    """Behind the setup the call gets this answer, and all stays as it was."""
    before = run(*setup, *PROBE)
    after = run(*setup, call, *PROBE)
    test.assertEqual(after[len(setup)], answer, call)
    test.assertEqual(after[:len(setup)] + after[len(setup) + 1:], before, call)


def assert_refused(test, call, refusal, setup=SETUP):
    """The call is answered by the refusal alone, and all stays as it was."""
    assert_changes_nothing(test, call, [refusal], setup)
