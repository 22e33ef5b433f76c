"""The refusals of the program, one class for each."""


class LampError(ValueError):
    pass


class NoBook(LampError):
    pass


class NoSign(LampError):
    pass


class NoFlash(LampError):
    pass


class NoText(LampError):
    pass


class NoNotes(LampError):
    pass
