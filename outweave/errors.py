"""The refusals: what is wrong, each with a class of its own under OutError."""


class OutError(ValueError):
    pass


class NoSign(OutError):
    def __init__(self, at):
        self.at = at


class NoRoom(OutError):
    def __init__(self, at):
        self.at = at


class NoRoll(OutError):
    def __init__(self, at):
        self.at = at


class NoHand(OutError):
    def __init__(self, name):
        self.name = name


class Twice(OutError):
    def __init__(self, name):
        self.name = name


class Closed(OutError):
    def __init__(self, name):
        self.name = name


class NoName(OutError):
    pass


class NoSize(OutError):
    pass


class NoCell(OutError):
    pass


class NoRow(OutError):
    pass
