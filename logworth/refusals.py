"""Why a call is refused: one error class for each error code."""


class Refusal(Exception):
    """A call that is answered with its error code alone."""

    def __init__(self, code):
        Exception.__init__(self)
        self.code = code


class NoStudy(Refusal):
    """There is no study."""

    def __init__(self):
        Refusal.__init__(self, -11)


class Missing(Refusal):
    """The policy, the context or the action doesn't exist."""

    def __init__(self):
        Refusal.__init__(self, -2)


class OutOfLimits(Refusal):
    """An argument is outside its limits."""

    def __init__(self):
        Refusal.__init__(self, -22)


class LogFull(Refusal):
    """There are already 40 events."""

    def __init__(self):
        Refusal.__init__(self, -28)


class NotEnough(Refusal):
    """There are not enough events, a probability is 0, or a divisor is 0."""

    def __init__(self):
        Refusal.__init__(self, -33)
