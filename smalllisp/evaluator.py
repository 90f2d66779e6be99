"""Evaluates an object. What waits for a value lies in a list, so that forms may be nested as deep as they like."""

from smalllisp.faults import MalformedForm, NoFunction, NoValue, OutOfRange, OverBudget, WrongCount, WrongKind
from smalllisp.objects import NAME_DEF, NAME_IF, NAME_LAMBDA, NAME_PROGN, NAME_QUOTE
from smalllisp.objects import Function, Pair, Primitive, is_name
from smalllisp.primitives import apply_primitive


class Bindings:
    def __init__(self, bound, outer):
        self.bound = bound
        self.outer = outer


class Machine:
    # ahead has the steps that are still to be taken, the next one last; value is what the last one came to.
    def __init__(self, definitions, budget):
        self.definitions = definitions
        self.forms_left = budget
        self.ahead = []
        self.value = None


class Look:
    # A thing that is to be evaluated.
    def __init__(self, thing, bindings):
        self.thing = thing
        self.bindings = bindings


class Choice:
    # An if that waits for its condition.
    def __init__(self, parts, bindings):
        self.parts = parts
        self.bindings = bindings


class Sequence:
    # A progn of which the parts from place at on are to be evaluated.
    def __init__(self, parts, at, bindings):
        self.parts = parts
        self.at = at
        self.bindings = bindings


class Naming:
    # A def that waits for its value.
    def __init__(self, name):
        self.name = name


class Gathering:
    # A form whose parts are evaluated one by one, and then applied.
    def __init__(self, parts, bindings):
        self.parts = parts
        self.bindings = bindings
        self.found = []


def outcome(thing, definitions, budget):
    # The fault's number, or 0, and the value.
    try:
        value = value_of(thing, definitions, budget)
    except NoValue:
        return (1, None)
    except WrongKind:
        return (2, None)
    except WrongCount:
        return (3, None)
    except OutOfRange:
        return (4, None)
    except NoFunction:
        return (5, None)
    except MalformedForm:
        return (6, None)
    except OverBudget:
        return (7, None)
    return (0, value)


def value_of(thing, definitions, budget):
    machine = Machine(definitions, budget)
    machine.ahead.append(Look(thing, None))
    while len(machine.ahead) > 0:
        take_step(machine, machine.ahead.pop())
    return machine.value


def take_step(machine, step):
    if isinstance(step, Look):
        look(machine, step.thing, step.bindings)
    elif isinstance(step, Choice):
        choose(machine, step)
    elif isinstance(step, Sequence):
        go_through(machine, step)
    elif isinstance(step, Naming):
        machine.definitions[step.name] = machine.value
    else:
        gather(machine, step)


def look(machine, thing, bindings):
    if isinstance(thing, Pair):
        begin_form(machine, thing, bindings)
    elif is_name(thing):
        machine.value = value_of_name(thing, bindings, machine.definitions)
    else:
        machine.value = thing


def value_of_name(name, bindings, definitions):
    layer = bindings
    while layer is not None:
        if name in layer.bound:
            return layer.bound[name]
        layer = layer.outer
    if name not in definitions:
        raise NoValue()
    return definitions[name]


def begin_form(machine, form, bindings):
    # The budget is asked first, because a malformed form counts as well.
    if machine.forms_left == 0:
        raise OverBudget()
    machine.forms_left -= 1
    parts = parts_of(form)
    first = parts[0]
    if first == NAME_QUOTE:
        check_part_count(parts, 2)
        machine.value = parts[1]
    elif first == NAME_IF:
        check_part_count(parts, 4)
        machine.ahead.append(Choice(parts, bindings))
        machine.ahead.append(Look(parts[1], bindings))
    elif first == NAME_PROGN:
        begin_progn(machine, parts, bindings)
    elif first == NAME_DEF:
        begin_def(machine, parts, bindings)
    elif first == NAME_LAMBDA:
        machine.value = function_of(parts, bindings)
    else:
        machine.ahead.append(Gathering(parts, bindings))
        machine.ahead.append(Look(first, bindings))


def parts_of(thing):
    parts = []
    rest = thing
    while isinstance(rest, Pair):
        parts.append(rest.head)
        rest = rest.tail
    if rest is not None:
        raise MalformedForm()
    return parts


def check_part_count(parts, count):
    if len(parts) != count:
        raise MalformedForm()


def begin_progn(machine, parts, bindings):
    if len(parts) == 1:
        machine.value = None
    else:
        machine.ahead.append(Sequence(parts, 1, bindings))


def begin_def(machine, parts, bindings):
    check_part_count(parts, 3)
    if not is_name(parts[1]):
        raise MalformedForm()
    machine.ahead.append(Naming(parts[1]))
    machine.ahead.append(Look(parts[2], bindings))


def function_of(parts, bindings):
    check_part_count(parts, 3)
    names = parts_of(parts[1])
    for name in names:
        if not is_name(name):
            raise MalformedForm()
    return Function(names, parts[2], bindings)


def choose(machine, step):
    chosen = step.parts[3] if machine.value is None else step.parts[2]
    machine.ahead.append(Look(chosen, step.bindings))


def go_through(machine, step):
    # Nothing is left waiting behind the last part: its value is the progn's.
    if step.at + 1 < len(step.parts):
        machine.ahead.append(Sequence(step.parts, step.at + 1, step.bindings))
    machine.ahead.append(Look(step.parts[step.at], step.bindings))


def gather(machine, step):
    step.found.append(machine.value)
    if len(step.found) < len(step.parts):
        machine.ahead.append(step)
        machine.ahead.append(Look(step.parts[len(step.found)], step.bindings))
    else:
        apply_first(machine, step.found[0], step.found[1:])


def apply_first(machine, applied, arguments):
    if isinstance(applied, Primitive):
        machine.value = apply_primitive(applied, arguments)
    elif isinstance(applied, Function):
        machine.ahead.append(Look(applied.body, bindings_of_call(applied, arguments)))
    else:
        raise NoFunction()


def bindings_of_call(function, arguments):
    if len(arguments) != len(function.names):
        raise WrongCount()
    bound = {}
    for place, name in enumerate(function.names):
        bound[name] = arguments[place]
    return Bindings(bound, function.bindings)
