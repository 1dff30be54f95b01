"""Webs written as texts, and texts read to webs."""

from treewalkers.errors import NoText
from treewalkers.webs import check_web, is_web

FIGURES = "0123456789"


def written(web):
    """The web as a text, such as `4: 0-1 0-2 2-3`."""
    check_web(web)
    many, ties = web
    return f"{many}:" + "".join([f" {a}-{b}" for a, b in ties])


def read(text):
    """The web of which just this text is written."""
    if not isinstance(text, str):
        raise NoText("this is no text")
    web = web_by_figures(text)
    # The figures alone were looked at; writing the web again shows whether all else is right.
    if not is_web(web) or written(web) != text:
        raise NoText("no web is written so")
    return web


def web_by_figures(text):
    """What the web is if each figure stands where it is to; what is no figure becomes no place."""
    many = figure_at(text, 0)
    ties = [(figure_at(text, at + 1), figure_at(text, at + 3)) for at in range(2, len(text), 4)]
    return (many, tuple(ties))


def figure_at(text, at):
    # A slice, since the text may end ahead of the place.
    sign = text[at:at + 1]
    return FIGURES.find(sign) if sign else -1
