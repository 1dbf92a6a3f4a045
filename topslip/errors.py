"""The refusals of the program, one class for each.

Their words never show a number: Python writes out no number of more than some thousand figures
and would fail with an error of its own.
"""


class SlipError(ValueError):
    pass


class BadNumber(SlipError):
    pass


class BadDepth(SlipError):
    pass


class BadKey(SlipError):
    pass


class BadSpan(SlipError):
    pass


class NotTaken(SlipError):
    pass
