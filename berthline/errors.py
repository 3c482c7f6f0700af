"""The refusals of a quay, one class for each."""


class QuayError(ValueError):
    pass


class NoRoom(QuayError):
    pass


class Twice(QuayError):
    pass


class NoShip(QuayError):
    pass
