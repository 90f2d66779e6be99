"""The calls on one Lisp: their numbers are taken apart here, and their answers put together."""

from smalllisp.evaluator import outcome
from smalllisp.faults import MalformedText, NothingToRead, WrongKind
from smalllisp.objects import Pair, kind_of, same
from smalllisp.primitives import car, cdr, first_definitions
from smalllisp.reader import read_first
from smalllisp.writer import text_of

READ = 1

NOTHING_THERE = -1
REFUSED = -2
MALFORMED = -3
NO_PAIR = -3
TOO_LONG = -4

REGISTER_COUNT = 16
LONGEST_TEXT = 65535
HIGHEST_MOST = 65535
HIGHEST_BUDGET = 1000000


class Lisp:
    # held has what each of the registers holds.
    def __init__(self):
        self.held = [None] * REGISTER_COUNT
        self.definitions = first_definitions()


def is_place(number):
    return 0 <= number < REGISTER_COUNT


def are_places(numbers):
    return all([is_place(number) for number in numbers])


def answer_to_read(lisp, handed):
    r = handed[0]
    text = handed[2:]
    if not is_place(r) or len(text) > LONGEST_TEXT:
        return [REFUSED]
    try:
        found = read_first(text)
    except NothingToRead:
        return [NOTHING_THERE]
    except MalformedText:
        return [MALFORMED]
    lisp.held[r] = found[0]
    return [found[1]]


def answer_to_write(lisp, handed):
    r = handed[0]
    most = handed[1]
    if not is_place(r) or not 0 <= most <= HIGHEST_MOST:
        return [REFUSED]
    text = text_of(lisp.held[r], most)
    if text is None:
        return [TOO_LONG]
    return [len(text)] + text


def answer_to_evaluate(lisp, handed):
    r = handed[0]
    budget = handed[1]
    if not is_place(r) or not 0 <= budget <= HIGHEST_BUDGET:
        return [REFUSED]
    result = outcome(lisp.held[r], lisp.definitions, budget)
    if result[0] == 0:
        lisp.held[r] = result[1]
    return [result[0]]


def answer_to_cons(lisp, handed):
    if not are_places(handed):
        return [REFUSED]
    lisp.held[handed[0]] = Pair(lisp.held[handed[1]], lisp.held[handed[2]])
    return [0]


def answer_to_car(lisp, handed):
    return answer_with_part(lisp, handed, car)


def answer_to_cdr(lisp, handed):
    return answer_with_part(lisp, handed, cdr)


def answer_with_part(lisp, handed, part_of):
    if not are_places(handed):
        return [REFUSED]
    try:
        part = part_of([lisp.held[handed[1]]])
    except WrongKind:
        return [NO_PAIR]
    lisp.held[handed[0]] = part
    return [0]


def answer_to_kind(lisp, handed):
    if not are_places(handed):
        return [REFUSED]
    return [kind_of(lisp.held[handed[0]])]


def answer_to_same(lisp, handed):
    if not are_places(handed):
        return [REFUSED]
    return [1 if same(lisp.held[handed[0]], lisp.held[handed[1]]) else 0]


# By number: how many whole numbers a call has ahead of its text, if it has one, and what answers it.
CALLS = {
    1: (1, answer_to_read),
    2: (2, answer_to_write),
    3: (2, answer_to_evaluate),
    4: (3, answer_to_cons),
    5: (2, answer_to_car),
    6: (2, answer_to_cdr),
    7: (1, answer_to_kind),
    8: (2, answer_to_same),
}


def answers(calls):
    lisp = Lisp()
    given = []
    at = 0
    while at < len(calls):
        end = end_of_call(calls, at)
        entry = CALLS[calls[at]]
        work = entry[1]
        answer = work(lisp, calls[at + 1:end])
        given.append(len(answer))
        given.extend(answer)
        at = end
    return given


def end_of_call(calls, at):
    entry = CALLS[calls[at]]
    end = at + 1 + entry[0]
    if calls[at] == READ:
        # The text has how many bytes it has before it.
        end += 1 + calls[end]
    return end
