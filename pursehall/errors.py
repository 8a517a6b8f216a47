"""The refusals of the program."""


class PurseError(ValueError):
    pass


class BadMachine(PurseError):
    pass


class BadRow(PurseError):
    pass


class BadPrices(PurseError):
    pass


class BadModel(PurseError):
    pass


class BadForm(PurseError):
    pass
