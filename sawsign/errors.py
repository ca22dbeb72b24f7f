"""The refusals: one class for each, all of them under SawError and none under another one."""


class SawError(ValueError):
    pass


class NoCount(SawError):
    pass


class NotOdd(SawError):
    pass


class TooMany(SawError):
    pass


class NotApart(SawError):
    pass


class NoShuffle(SawError):
    pass


class NoPaper(SawError):
    pass


class NoPrime(SawError):
    def __init__(self, divisor):
        SawError.__init__(self, f"this is no prime: its divisor is {divisor}")
        self.divisor = divisor


class NoFraction(SawError):
    pass


class NoTable(SawError):
    pass


class NoWord(SawError):
    pass


class NoRow(SawError):
    pass


class NoText(SawError):
    pass


class NoLine(SawError):
    pass


class NoName(SawError):
    def __init__(self, name):
        SawError.__init__(self, f"{name} stands for nothing")
        self.name = name


class NoDeed(SawError):
    pass
