"""What a call is refused for, and what is wrong with a text."""


class Refusal(Exception):
    """A call is not answered, and nothing has changed."""

    def __init__(self, number):
        self.number = number


class NotValves(Refusal):
    """What was handed over as valves isn't rising, or isn't valves."""

    def __init__(self):
        Refusal.__init__(self, 1)


class TooMany(Refusal):
    """More bytes, or more valves, than the call takes."""

    def __init__(self):
        Refusal.__init__(self, 2)


class NothingHelps(Refusal):
    """Whatever is shut, water comes to the pipe."""

    def __init__(self):
        Refusal.__init__(self, 3)


class NoLevel(Refusal):
    """The joint has a shut valve, or no way leads off from it."""

    def __init__(self):
        Refusal.__init__(self, 3)


class NoSuchJoint(Refusal):
    """The system has no joint of that number."""

    def __init__(self):
        Refusal.__init__(self, 4)


class NoSuchPipe(Refusal):
    """The system has no pipe of that number."""

    def __init__(self):
        Refusal.__init__(self, 4)


class Fault(Exception):
    """A text is wrong: the kind of fault, and its line from 0."""

    def __init__(self, kind, line):
        self.kind = kind
        self.line = line


class NotACall(ValueError):
    """A list of calls holds a number where no call begins with it."""
