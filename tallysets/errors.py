"""The refusals of the program."""


class TallyError(ValueError):
    pass


class NoTally(TallyError):
    pass


class NoFan(TallyError):
    pass


class NoText(TallyError):
    pass


class NoTree(TallyError):
    pass


class TooGreat(TallyError):
    pass
