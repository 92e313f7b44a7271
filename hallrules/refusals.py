"""The refusals: what a call raises when it can't be done."""


class Refusal(Exception):
    """A call is refused; told is what is answered for it."""

    def __init__(self, told):
        self.told = told


class OutOfRange(Refusal):
    """A number is none of those that the call knows."""

    def __init__(self):
        Refusal.__init__(self, [-1])


class NoRules(Refusal):
    """The object has no rules of which something could be told."""

    def __init__(self):
        Refusal.__init__(self, [-3])


class TextFault(Refusal):
    """A text isn't right: its first fault has this kind and this place."""

    def __init__(self, kind, place):
        Refusal.__init__(self, [-6, kind, place])


class NoText(Refusal):
    """There is no right text of which just this would be told."""

    def __init__(self):
        Refusal.__init__(self, [-8])
