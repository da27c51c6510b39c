"""The refusals of the calls, an error class for each."""


class PlaceAbove(Exception):
    pass


class NoMachine(Exception):
    pass


class NotBuilding(Exception):
    pass


class NoSuchPart(Exception):
    pass


class NoRoom(Exception):
    pass


class TooLong(Exception):
    pass


class NoWord(Exception):
    pass
