"""What can go wrong while a text is read or an object is evaluated."""


class NothingToRead(Exception):
    pass


class MalformedText(Exception):
    pass


class NoValue(Exception):
    pass


class WrongKind(Exception):
    pass


class WrongCount(Exception):
    pass


class OutOfRange(Exception):
    pass


class NoFunction(Exception):
    pass


class MalformedForm(Exception):
    pass


class OverBudget(Exception):
    pass
