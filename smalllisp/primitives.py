"""The primitives: what each does with its arguments, and what is defined at first."""

from smalllisp.faults import OutOfRange, WrongCount, WrongKind
from smalllisp.objects import NAME_T, Pair, Primitive, in_number_range, is_number, same


def truth(holds):
    return NAME_T if holds else None


def check_numbers(arguments):
    for argument in arguments:
        if not is_number(argument):
            raise WrongKind()


def checked(number):
    if not in_number_range(number):
        raise OutOfRange()
    return number


def plus(arguments):
    check_numbers(arguments)
    return checked(arguments[0] + arguments[1])


def minus(arguments):
    check_numbers(arguments)
    return checked(arguments[0] - arguments[1])


def times(arguments):
    check_numbers(arguments)
    return checked(arguments[0] * arguments[1])


def less(arguments):
    check_numbers(arguments)
    return truth(arguments[0] < arguments[1])


def equal(arguments):
    check_numbers(arguments)
    return truth(arguments[0] == arguments[1])


def cons(arguments):
    return Pair(arguments[0], arguments[1])


def check_pair_or_nil(thing):
    if thing is not None and not isinstance(thing, Pair):
        raise WrongKind()


def car(arguments):
    check_pair_or_nil(arguments[0])
    return None if arguments[0] is None else arguments[0].head


def cdr(arguments):
    check_pair_or_nil(arguments[0])
    return None if arguments[0] is None else arguments[0].tail


def atom(arguments):
    return truth(not isinstance(arguments[0], Pair))


def eq(arguments):
    return truth(same(arguments[0], arguments[1]))


# By name: how many arguments, and what is done with them.
PRIMITIVES = {
    (43,): (2, plus),
    (45,): (2, minus),
    (42,): (2, times),
    (60,): (2, less),
    (61,): (2, equal),
    (99, 111, 110, 115): (2, cons),
    (99, 97, 114): (1, car),
    (99, 100, 114): (1, cdr),
    (97, 116, 111, 109): (1, atom),
    (101, 113): (2, eq),
}


def apply_primitive(primitive, arguments):
    entry = PRIMITIVES[primitive.name]
    if len(arguments) != entry[0]:
        raise WrongCount()
    work = entry[1]
    return work(arguments)


def first_definitions():
    definitions = {NAME_T: NAME_T}
    for name in PRIMITIVES:
        definitions[name] = Primitive(name)
    return definitions
