"""The errors of the package; each one keeps the very value that it is about."""


class FreshError(ValueError):
    """The error from which all errors of the package derive."""


class BadGoods(FreshError):
    """A value is not a lot, an order or an amount that is right here."""

    def __init__(self, value):
        self.value = value


class BadStairs(FreshError):
    """A value is not a pair of which a staircase can be made."""

    def __init__(self, value):
        self.value = value


class BadDay(FreshError):
    """A value is not a day that is right here."""

    def __init__(self, value):
        self.value = value


class BadText(FreshError):
    """A value is not a text of the form that is read here."""

    def __init__(self, value):
        self.value = value


class BadCommand(FreshError):
    """A value is not a command of the console."""

    def __init__(self, command):
        self.command = command


class UnknownId(FreshError):
    """There is no lot or order with this id."""

    def __init__(self, ident):
        self.ident = ident


class TakenId(FreshError):
    """There is a lot or order with this id already."""

    def __init__(self, ident):
        self.ident = ident


class TooMany(FreshError):
    """There would be more lots or orders than a house has."""

    def __init__(self, count):
        self.count = count


class NoRoom(FreshError):
    """A staircase shows that there is not enough room."""

    def __init__(self, stairs):
        self.stairs = stairs


class NothingToDo(FreshError):
    """There is nothing to undo or redo."""

    def __init__(self, action):
        self.action = action


class UnknownName(FreshError):
    """A value is not the name of a house."""

    def __init__(self, name):
        self.name = name


class TakenName(FreshError):
    """There is a house with this name already."""

    def __init__(self, name):
        self.name = name
