"""The refusals: one error class for each error code."""


class Refusal(Exception):
    """A call that is refused: its code is the whole answer."""

    def __init__(self, code):
        Exception.__init__(self)
        self.code = code


class NoSimulator(Refusal):
    """No create has succeeded in this session."""

    def __init__(self):
        Refusal.__init__(self, -11)


class NoSection(Refusal):
    """A section doesn't exist."""

    def __init__(self):
        Refusal.__init__(self, -2)


class NotSeated(Refusal):
    """A section isn't seated."""

    def __init__(self):
        Refusal.__init__(self, -17)


class OutOfRange(Refusal):
    """An argument is outside its range."""

    def __init__(self):
        Refusal.__init__(self, -22)


class NeverHappens(Refusal):
    """The ring never becomes quiet, or the section never stands."""

    def __init__(self):
        Refusal.__init__(self, -33)
