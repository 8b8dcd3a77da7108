"""The refusals, one error class each."""


class NoValue(Exception):
    pass


class NotWellFormed(Exception):
    pass


class KeyTwice(Exception):
    pass


class NoNode(Exception):
    pass


class NotString(Exception):
    pass


class NotMap(Exception):
    pass


class NoSuchKey(Exception):
    pass
