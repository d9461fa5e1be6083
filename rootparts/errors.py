"""The errors of the package. Each one keeps what it was made with."""


class RootpartsError(ValueError):
    """The base of all errors of the package."""


class InvalidPlace(RootpartsError):
    """A value stands where a place is asked, and is none."""

    def __init__(self, value):
        super().__init__("the value is no place")
        self.value = value


class SamePlace(RootpartsError):
    """One place stands where two different ones are asked."""

    def __init__(self, place):
        super().__init__("the two places are the same")
        self.place = place


class AlreadyTied(RootpartsError):
    """Two places are to be tied, and are tied."""

    def __init__(self, a, b):
        super().__init__("the two places are tied already")
        self.a = a
        self.b = b


class NotTied(RootpartsError):
    """A tie is to be taken away, and there is none."""

    def __init__(self, a, b):
        super().__init__("the two places are not tied")
        self.a = a
        self.b = b


class AlreadyRoot(RootpartsError):
    """A place is to be made a root, and is one."""

    def __init__(self, place):
        super().__init__("the place is a root already")
        self.place = place


class NotRoot(RootpartsError):
    """A place is to be made no root, and is none."""

    def __init__(self, place):
        super().__init__("the place is no root")
        self.place = place


class InvalidSizes(RootpartsError):
    """The roots and the sizes are no deal of the web."""

    def __init__(self, sizes):
        super().__init__("the roots and the sizes are no deal of the web")
        self.sizes = sizes


class InvalidText(RootpartsError):
    """A value stands where a text is asked, and is none."""

    def __init__(self, value):
        super().__init__("the value is no text of a web")
        self.value = value
