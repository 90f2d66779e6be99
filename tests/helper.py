"""Makes calls, and takes answers apart, for the tests."""

from smalllisp.lisp import answers

LONGEST = 65535


def in_bytes(text):
    return list(text) if isinstance(text, list) else list(text.encode("latin-1"))


def read(r, text):
    text = in_bytes(text)
    return [1, r, len(text)] + text


def write(r, most=LONGEST):
    return [2, r, most]


def evaluate(r, budget=2000):
    return [3, r, budget]


def cons(r, a, d):
    return [4, r, a, d]


def car(r, a):
    return [5, r, a]


def cdr(r, a):
    return [6, r, a]


def kind(r):
    return [7, r]


def same(a, b):
    return [8, a, b]


def answers_to(*calls):
    """One list for each call, as it was answered."""
    given = answers([number for call in calls for number in call])
    split = []
    at = 0
    while at < len(given):
        split.append(given[at + 1:at + 1 + given[at]])
        at += 1 + given[at]
    if at != len(given) or len(split) != len(calls):
        raise ValueError(f"answers do not fit the calls: {given}")
    return split


def shown(answer):
    """The text that write answered."""
    if answer[0] != len(answer) - 1:
        raise ValueError(f"not an answer of write with a text: {answer}")
    return bytes(answer[1:]).decode("ascii")


def written(text):
    """How the first object of the text is written."""
    return shown(answers_to(read(0, text), write(0))[1])


def outcome(*texts, budget=2000):
    """The texts are evaluated in turn on one Lisp: the last one's answer, and what its register then holds."""
    calls = []
    for text in texts:
        calls += [read(0, text), evaluate(0, budget)]
    given = answers_to(*calls, write(0))
    return given[-2][0], shown(given[-1])


def value(*texts, budget=2000):
    """The last text's value, as it is written."""
    number, text = outcome(*texts, budget=budget)
    if number != 0:
        raise ValueError(f"fault {number}")
    return text


def fault(*texts, budget=2000):
    """The number that the last text's evaluation answers."""
    return outcome(*texts, budget=budget)[0]
