"""The errors of the program."""


class BridgeError(ValueError):
    """The base class of all errors of the program."""


class RoomError(BridgeError):
    """There is no room at a place."""

    def __init__(self, place):
        super().__init__(f"no room: {place}")
        self.place = place


class StateError(BridgeError):
    """Something may not be done in a state."""

    def __init__(self, state):
        super().__init__(f"not in this state: {state}")
        self.state = state


class CommandError(BridgeError):
    """A line of a script is not a command."""

    def __init__(self, line):
        super().__init__(f"not a command: line {line}")
        self.line = line


class PolicyError(BridgeError):
    """A part of a policy, to which a way of indexes leads, is not as told."""

    def __init__(self, way):
        super().__init__(f"not a policy: {way}")
        self.way = way


class MisreadError(BridgeError):
    """A text cannot go on as it does at an index."""

    def __init__(self, at):
        super().__init__(f"misread at index {at}")
        self.at = at
