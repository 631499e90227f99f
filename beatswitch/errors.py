"""The refusals, each with the field that tells what was refused.

A message holds no whole number: one may have more figures than Python writes out.
"""


class SwitchError(ValueError):
    """Any refusal."""


class NotFull(SwitchError):
    """Of a list of pairings the one numbered `at` is no full one where it stands."""

    def __init__(self, at):
        super().__init__("no full pairing that is not empty")
        self.at = at


class NoLine(SwitchError):
    """There is no such line; `at` is 0 for a row or a front, 1 for a column or a behind."""

    def __init__(self, at):
        super().__init__("no such line")
        self.at = at


class NoCall(SwitchError):
    """There is no call of this number."""

    def __init__(self, number):
        super().__init__("no such call")
        self.number = number


class NoPiece(SwitchError):
    """There is no piece of this number."""

    def __init__(self, number):
        super().__init__("no such piece")
        self.number = number


class NotSteady(SwitchError):
    """Of two sets the first one (`at` is 0) or the second one (1) is no steady set."""

    def __init__(self, at):
        super().__init__("no steady set")
        self.at = at


class NoBeat(SwitchError):
    """There was no beat of this number."""

    def __init__(self, number):
        super().__init__("no such beat")
        self.number = number


class NoText(SwitchError):
    """A text that writes no table."""

    def __init__(self, text):
        super().__init__(f"no table is written by: {text}")
        self.text = text


class TooMany(SwitchError):
    """More than there is room for; the text tells of what."""

    def __init__(self, text):
        super().__init__(f"too many: {text}")
        self.text = text


class NoRow(SwitchError):
    """A text that is none of the rows a desk can be told."""

    def __init__(self, text):
        super().__init__(f"no row for the desk: {text}")
        self.text = text
