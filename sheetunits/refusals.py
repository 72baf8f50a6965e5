"""The refusals, an error class for each number below 0."""


class Refusal(Exception):
    """A call is refused: number is what is answered, at the item told of, else 0."""

    def __init__(self, number, at):
        self.number = number
        self.at = at


class TooMuch(Refusal):
    """More bytes, tokens, items, units, parameters, places or equations than there may be."""

    def __init__(self, at):
        Refusal.__init__(self, -28, at)


class NoSheet(Refusal):
    """The bytes are no tokens, or the tokens no sheet; this tells of no item."""

    def __init__(self):
        Refusal.__init__(self, -71, 0)


class NotRight(Refusal):
    """An item that is not right, or whose equations have too large an exponent."""

    def __init__(self, at):
        Refusal.__init__(self, -22, at)


class NotAlike(Refusal):
    """An item that does not go together."""

    def __init__(self, at):
        Refusal.__init__(self, -61, at)


class TooLarge(Refusal):
    """An exponent comes out above or below its bound."""

    def __init__(self, at):
        Refusal.__init__(self, -75, at)


class NoItem(Refusal):
    """The sheet has no such item as is asked for."""

    def __init__(self):
        Refusal.__init__(self, -2, 0)
