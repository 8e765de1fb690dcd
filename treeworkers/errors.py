"""The error that tells that a text is not what it is read as."""


class Unreadable(ValueError):
    pass


def need(holds):
    if not holds:
        raise Unreadable()
