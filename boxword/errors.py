"""The refusals."""


# Above all the others, so that a caller can take any refusal by one name.
class BoxError(ValueError):
    pass


class BadMachine(BoxError):
    pass


class BadWord(BoxError):
    pass


class TooMany(BoxError):
    pass


class BadText(BoxError):
    pass
