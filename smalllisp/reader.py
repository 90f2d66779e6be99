"""Reads the first object of a text. A text is a list of bytes, each a whole number from 0 to 255."""

from smalllisp.faults import MalformedText, NothingToRead
from smalllisp.objects import NAME_QUOTE, Pair, in_number_range, pairs_of

LINE_FEED = 10
APOSTROPHE = 39
OPENING = 40
CLOSING = 41
SEMICOLON = 59
BLANKS = (32, 9, 10, 13)
WORD_ENDS = (32, 9, 10, 13, 40, 41, 39, 59)

LOWEST_IN_WORD = 33
HIGHEST_IN_WORD = 126
LONGEST_WORD = 15
HASH = 35
MINUS = 45
ZERO = 48
NINE = 57
WORD_DOT = (46,)
WORD_NIL = (110, 105, 108)


class OpenList:
    def __init__(self):
        self.parts = []
        self.parts_before_dot = None


class Reading:
    # unfinished has what was begun and not ended, the innermost last: an OpenList for (, None for '.
    # It stands in the place of calls within calls, which a deep text could exhaust.
    def __init__(self, text):
        self.text = text
        self.at = 0
        self.unfinished = []
        self.done = False
        self.thing = None


def read_first(text):
    if after_blanks(text, 0) == len(text):
        raise NothingToRead()
    reading = Reading(text)
    while not reading.done:
        read_token(reading)
    return (reading.thing, reading.at)


def after_blanks(text, at):
    in_comment = False
    while at < len(text) and (in_comment or text[at] in BLANKS or text[at] == SEMICOLON):
        if text[at] == SEMICOLON:
            in_comment = True
        elif text[at] == LINE_FEED:
            in_comment = False
        at += 1
    return at


def read_token(reading):
    at = after_blanks(reading.text, reading.at)
    if at == len(reading.text):
        raise MalformedText()
    byte = reading.text[at]
    reading.at = at + 1
    if byte == OPENING:
        reading.unfinished.append(OpenList())
    elif byte == APOSTROPHE:
        reading.unfinished.append(None)
    elif byte == CLOSING:
        innermost = innermost_list(reading)
        reading.unfinished.pop()
        put(reading, closed(innermost))
    else:
        read_word(reading, at)


def read_word(reading, at):
    reading.at = end_of_word(reading.text, at)
    word = tuple(reading.text[at:reading.at])
    if word == WORD_DOT:
        put_dot(innermost_list(reading))
    else:
        put(reading, thing_of_word(word))


def end_of_word(text, at):
    # A byte that no word may have doesn't end a word: the word is malformed by it.
    while at < len(text) and text[at] not in WORD_ENDS:
        at += 1
    return at


def innermost_list(reading):
    if len(reading.unfinished) == 0 or reading.unfinished[-1] is None:
        raise MalformedText()
    return reading.unfinished[-1]


def put_dot(innermost):
    if len(innermost.parts) == 0 or innermost.parts_before_dot is not None:
        raise MalformedText()
    innermost.parts_before_dot = len(innermost.parts)


def closed(innermost):
    parts = innermost.parts
    if innermost.parts_before_dot is None:
        return pairs_of(parts, None)
    if len(parts) != innermost.parts_before_dot + 1:
        raise MalformedText()
    return pairs_of(parts[:-1], parts[-1])


def put(reading, thing):
    unfinished = reading.unfinished
    while len(unfinished) > 0 and unfinished[-1] is None:
        unfinished.pop()
        thing = Pair(NAME_QUOTE, Pair(thing, None))
    if len(unfinished) > 0:
        unfinished[-1].parts.append(thing)
    else:
        reading.thing = thing
        reading.done = True


def thing_of_word(word):
    if len(word) > LONGEST_WORD or word[0] == HASH or not all([may_be_in_word(byte) for byte in word]):
        raise MalformedText()
    if is_number_word(word):
        return number_of_word(word)
    if word == WORD_NIL:
        return None
    return word


def may_be_in_word(byte):
    return LOWEST_IN_WORD <= byte <= HIGHEST_IN_WORD


def digits_of(word):
    return word[1:] if word[0] == MINUS else word


def is_number_word(word):
    digits = digits_of(word)
    return len(digits) > 0 and all([ZERO <= byte <= NINE for byte in digits])


def number_of_word(word):
    number = 0
    for byte in digits_of(word):
        number = number * 10 + byte - ZERO
    if word[0] == MINUS:
        number = -number
    if not in_number_range(number):
        raise MalformedText()
    return number
