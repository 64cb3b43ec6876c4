"""The refusals: one error class for each code that a call may answer."""


class Refusal(Exception):
    """A call can't be answered; the code is told in place of an answer."""

    def __init__(self, code):
        self.code = code


class NoInstance(Refusal):
    """No instance exists."""

    def __init__(self):
        Refusal.__init__(self, -11)


class NoSuchPlace(Refusal):
    """There is no such place."""

    def __init__(self):
        Refusal.__init__(self, -2)


class OutOfRange(Refusal):
    """A parameter is outside its range, or a road would lead from a place to itself."""

    def __init__(self):
        Refusal.__init__(self, -22)


class NoStore(Refusal):
    """There is no store."""

    def __init__(self):
        Refusal.__init__(self, -6)


class StoreThere(Refusal):
    """There is a store at the place already."""

    def __init__(self):
        Refusal.__init__(self, -17)


class StoresEverywhere(Refusal):
    """There is a store at every place."""

    def __init__(self):
        Refusal.__init__(self, -28)


class NoRoute(Refusal):
    """There is no route, a distance is undefined, or the network is not connected."""

    def __init__(self):
        Refusal.__init__(self, -33)
