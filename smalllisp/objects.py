"""The objects of the Lisp.

nil is None, a whole number is an int, and a name is the tuple of its bytes. Pairs, functions and primitives are
of the classes below. These have no equality of their own, so == asks of them whether they are one and the same.
"""

LOWEST = -2147483648
HIGHEST = 2147483647

KIND_NIL = 0
KIND_NUMBER = 1
KIND_NAME = 2
KIND_PAIR = 3
KIND_FUNCTION = 4
KIND_PRIMITIVE = 5

NAME_T = (116,)
NAME_QUOTE = (113, 117, 111, 116, 101)
NAME_IF = (105, 102)
NAME_PROGN = (112, 114, 111, 103, 110)
NAME_DEF = (100, 101, 102)
NAME_LAMBDA = (108, 97, 109, 98, 100, 97)


class Pair:
    def __init__(self, head, tail):
        self.head = head
        self.tail = tail


class Function:
    def __init__(self, names, body, bindings):
        self.names = names
        self.body = body
        self.bindings = bindings


class Primitive:
    def __init__(self, name):
        self.name = name


def is_number(thing):
    return isinstance(thing, int)


def is_name(thing):
    return isinstance(thing, tuple)


def kind_of(thing):
    if thing is None:
        return KIND_NIL
    if is_number(thing):
        return KIND_NUMBER
    if is_name(thing):
        return KIND_NAME
    if isinstance(thing, Pair):
        return KIND_PAIR
    if isinstance(thing, Function):
        return KIND_FUNCTION
    return KIND_PRIMITIVE


def in_number_range(number):
    return LOWEST <= number <= HIGHEST


def same(one, other):
    return one == other


def pairs_of(parts, last):
    thing = last
    for part in reversed(parts):
        thing = Pair(part, thing)
    return thing
