"""A second Lisp, for the tests to compare with: the document's words in nested calls, with no thought of depth.

Objects: None, int, Word, list of two for a pair, Made for a function, Own for a primitive.
"""

import operator


class Word(str):
    pass


class Made:
    def __init__(self, names, body, bound):
        self.names, self.body, self.bound = names, body, bound


class Own(str):
    pass


class Fault(Exception):
    pass


def is_number(thing):
    return isinstance(thing, int)


def number_work(work):
    def applied(one, other):
        if not (is_number(one) and is_number(other)):
            raise Fault(2)
        found = work(one, other)
        if isinstance(found, bool):
            return Word("t") if found else None
        if abs(2 * found + 1) > 2 ** 32:
            raise Fault(4)
        return found
    return applied


def part_work(place):
    def applied(thing):
        if thing is not None and not isinstance(thing, list):
            raise Fault(2)
        return thing and thing[place]
    return applied


def are_same(one, other):
    if isinstance(one, (list, Made)) or isinstance(other, (list, Made)):
        return one is other
    return kind_of(one) == kind_of(other) and one == other


OWN = {
    "+": (2, number_work(operator.add)), "-": (2, number_work(operator.sub)), "*": (2, number_work(operator.mul)),
    "<": (2, number_work(operator.lt)), "=": (2, number_work(operator.eq)), "cons": (2, lambda a, d: [a, d]),
    "car": (1, part_work(0)), "cdr": (1, part_work(1)),
    "atom": (1, lambda thing: None if isinstance(thing, list) else Word("t")),
    "eq": (2, lambda one, other: Word("t") if are_same(one, other) else None),
}


def kind_of(thing):
    if thing is None:
        return 0
    return [int, Word, list, Made, Own].index(type(thing)) + 1


def listed(thing):
    parts = []
    while isinstance(thing, list):
        parts.append(thing[0])
        thing = thing[1]
    if thing is not None:
        raise Fault(6)
    return parts


def text_of(thing):
    if isinstance(thing, list):
        inner = text_of(thing[0])
        rest = thing[1]
        while isinstance(rest, list):
            inner += " " + text_of(rest[0])
            rest = rest[1]
        return f"({inner})" if rest is None else f"({inner} . {text_of(rest)})"
    if isinstance(thing, Made):
        return "#fn"
    return "nil" if thing is None else "#" + thing if isinstance(thing, Own) else str(thing)


def read_plain(text):
    """Of a text that is right, with blanks round each of its words."""
    words = text.replace("(", " ( ").replace(")", " ) ").split()

    def one():
        word = words.pop(0)
        if word == "(":
            return rest_of_list()
        if word == "nil":
            return None
        return int(word) if word.lstrip("-").isdigit() else Word(word)

    def rest_of_list():
        if words[0] == ")":
            words.pop(0)
            return None
        if words[0] == ".":
            words.pop(0)
            last = one()
            words.pop(0)
            return last
        head = one()
        return [head, rest_of_list()]

    return one()


class Model:
    def __init__(self):
        self.held = [None] * 16
        self.defined = {"t": Word("t"), **{name: Own(name) for name in OWN}}
        self.left = 0

    def value(self, thing, bound):
        if isinstance(thing, Word):
            if thing in bound:
                return bound[thing]
            if thing not in self.defined:
                raise Fault(1)
            return self.defined[thing]
        return self.form(thing, bound) if isinstance(thing, list) else thing

    def form(self, thing, bound):
        if self.left == 0:
            raise Fault(7)
        self.left -= 1
        parts = listed(thing)
        first = parts[0] if isinstance(parts[0], Word) else ""
        if len(parts) != {"quote": 2, "if": 4, "def": 3, "lambda": 3}.get(first, len(parts)):
            raise Fault(6)
        if first == "quote":
            return parts[1]
        if first == "if":
            return self.value(parts[3] if self.value(parts[1], bound) is None else parts[2], bound)
        if first == "progn":
            return [None, *[self.value(part, bound) for part in parts[1:]]][-1]
        if first == "def":
            if not isinstance(parts[1], Word):
                raise Fault(6)
            self.defined[parts[1]] = self.value(parts[2], bound)
            return self.defined[parts[1]]
        if first == "lambda":
            names = listed(parts[1])
            if not all(isinstance(name, Word) for name in names):
                raise Fault(6)
            return Made(names, parts[2], bound)
        found = [self.value(part, bound) for part in parts]
        return self.applied(found[0], found[1:])

    def applied(self, what, arguments):
        if not isinstance(what, (Own, Made)):
            raise Fault(5)
        if len(arguments) != (OWN[what][0] if isinstance(what, Own) else len(what.names)):
            raise Fault(3)
        if isinstance(what, Own):
            return OWN[what][1](*arguments)
        return self.value(what.body, {**what.bound, **dict(zip(what.names, arguments))})

    def read(self, r, text):
        if not self.are_registers(r):
            return [-2]
        self.held[r] = read_plain(text)
        return [len(text)]

    def write(self, r, most):
        if not self.are_registers(r) or not 0 <= most <= 65535:
            return [-2]
        text = text_of(self.held[r]).encode()
        return [len(text), *text] if len(text) <= most else [-4]

    def evaluate(self, r, budget):
        if not self.are_registers(r) or not 0 <= budget <= 1000000:
            return [-2]
        self.left = budget
        try:
            self.held[r] = self.value(self.held[r], {})
        except Fault as fault:
            return [fault.args[0]]
        return [0]

    def cons(self, r, a, d):
        if not self.are_registers(r, a, d):
            return [-2]
        self.held[r] = [self.held[a], self.held[d]]
        return [0]

    def car(self, r, a):
        return self.part(r, a, "car")

    def cdr(self, r, a):
        return self.part(r, a, "cdr")

    def part(self, r, a, name):
        if not self.are_registers(r, a):
            return [-2]
        try:
            self.held[r] = OWN[name][1](self.held[a])
        except Fault:
            return [-3]
        return [0]

    def kind(self, r):
        return [kind_of(self.held[r])] if self.are_registers(r) else [-2]

    def same(self, a, b):
        return [int(are_same(self.held[a], self.held[b]))] if self.are_registers(a, b) else [-2]

    def are_registers(self, *numbers):
        return all(0 <= number <= 15 for number in numbers)
