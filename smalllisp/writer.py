"""Writes an object as a text, a list of bytes."""

from smalllisp.objects import Pair, Primitive, is_name, is_number

SPACE = 32
HASH = 35
OPENING = 40
CLOSING = 41
WORD_NIL = (110, 105, 108)
WORD_FUNCTION = (35, 102, 110)
DOT_BETWEEN_SPACES = (32, 46, 32)


class Part:
    # An object that is still to be written, with its parentheses if it has any.
    def __init__(self, thing):
        self.thing = thing


class Rest:
    # What is behind a list's parts that were written: more parts, or the list's end.
    def __init__(self, thing):
        self.thing = thing


def text_of(thing, most):
    # None where there are more than most bytes. An object whose parts are shared may have far more bytes than
    # could ever be written, so the walk stops as soon as there is one too many.
    text = []
    ahead = [Part(thing)]
    while len(ahead) > 0 and len(text) <= most:
        piece = ahead.pop()
        if isinstance(piece, Part):
            write_part(piece.thing, text, ahead)
        else:
            write_rest(piece.thing, text, ahead)
    if len(text) > most:
        return None
    return text


def write_part(thing, text, ahead):
    if isinstance(thing, Pair):
        text.append(OPENING)
        put_ahead(thing, ahead)
    else:
        text.extend(word_of(thing))


def write_rest(thing, text, ahead):
    if isinstance(thing, Pair):
        text.append(SPACE)
        put_ahead(thing, ahead)
        return
    if thing is not None:
        text.extend(DOT_BETWEEN_SPACES)
        text.extend(word_of(thing))
    text.append(CLOSING)


def put_ahead(pair, ahead):
    ahead.append(Rest(pair.tail))
    ahead.append(Part(pair.head))


def word_of(thing):
    if thing is None:
        return list(WORD_NIL)
    if is_number(thing):
        return [ord(sign) for sign in str(thing)]
    if is_name(thing):
        return list(thing)
    if isinstance(thing, Primitive):
        return [HASH] + list(thing.name)
    return list(WORD_FUNCTION)
