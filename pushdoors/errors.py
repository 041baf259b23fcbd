"""The refusals, one class for each kind."""


class DoorError(ValueError):
    """Any refusal."""


class BadHouse(DoorError):
    """A room of the house can't be, or there is a thirteenth door."""

    def __init__(self, path):
        DoorError.__init__(self, f"no house has such a room at {path}")
        self.path = path


class BadCount(DoorError):
    """A number lies beyond its limits."""


class NoName(DoorError):
    """No way out has this name."""

    def __init__(self, name):
        DoorError.__init__(self, f"no way out is called {name}")
        self.name = name


class NoDoor(DoorError):
    """The path leads to nothing that it should lead to."""

    def __init__(self, path):
        DoorError.__init__(self, f"nothing of that kind is at {path}")
        self.path = path


class BadDeed(DoorError):
    """A deed of a list is none, or is refused."""

    def __init__(self, number):
        DoorError.__init__(self, f"deed {number} can't be done")
        self.number = number


class BadText(DoorError):
    """A row of a text can't stand there, is more, or lacks."""

    def __init__(self, row):
        DoorError.__init__(self, f"row {row} can't stand there")
        self.row = row
