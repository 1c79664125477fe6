"""Notes: webs written as texts."""

from sameweb.errors import BadWeb
from sameweb.webs import MOST_POINTS, Web


def shown(web):
    """The web as a text."""
    colours = " ".join([str(colour) for colour in web.colours()])
    ties = "".join([f" {a}-{b}" for a, b in web.ties()])
    return f"{colours}:{ties}"


def read(text):
    """The web of which the text is what is shown."""
    if type(text) is not str:
        raise BadWeb("a web is read from a text")
    colours, _, ties = text.partition(":")
    web = Web(_numbers(colours, " "), [tuple(_numbers(tie, "-")) for tie in ties.split(" ")[1:]])
    # What stands wrongly between the numbers, or ahead of or behind them, is seen here.
    if shown(web) != text:
        raise BadWeb("the text is not what is shown of a web")
    return web


def _numbers(text, between):
    """The numbers in a text, with this sign between them."""
    # They are looked up since int would read other texts, too, and fail at very long ones.
    numbers = {str(number): number for number in range(MOST_POINTS)}
    words = text.split(between)
    for word in words:
        if word not in numbers:
            raise BadWeb("no number of a web is written so")
    return [numbers[word] for word in words]
