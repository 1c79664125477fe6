"""The refusals of the program, one class for each kind."""


class WebError(ValueError):
    """Any refusal."""


class BadWeb(WebError):
    """What was handed in tells no web."""


class BadRow(WebError):
    """What was handed in is no row, or one of another size."""


class BadCells(WebError):
    """What was handed in are no cells of the web."""


class NoPoint(WebError):
    """The web has no such point."""


class NoTurn(WebError):
    """The row is no turn of the web."""


class NoWeb(WebError):
    """No web has this number on the shelf."""
