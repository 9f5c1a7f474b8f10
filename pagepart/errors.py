"""The refusals of the program, one class for each."""


class PartError(ValueError):
    pass


class NoPage(PartError):
    pass


class NoPicture(PartError):
    pass


class NoPlace(PartError):
    pass


class NoTree(PartError):
    pass


class NoNeeds(PartError):
    pass


class NoTexts(PartError):
    pass


class NoRoom(PartError):
    pass


class NoRow(PartError):
    pass


class NoNumber(PartError):
    pass
