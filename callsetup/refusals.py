"""The refusals, an error class each; the calls turn them into their numbers."""


class TooLong(Exception):
    pass


class WrongMessage(Exception):
    pass


class WrongMoment(Exception):
    pass


class WrongTransaction(Exception):
    pass


class NoTransaction(Exception):
    pass
