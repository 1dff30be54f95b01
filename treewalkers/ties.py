"""Webs with one tie more or one tie less, and what a tie changes."""

from treewalkers.errors import Apart, NoTie
from treewalkers.exact import is_less, minus
from treewalkers.means import web_mean
from treewalkers.webs import check_ends, check_web, is_tie, is_web


def widened(many, ties, tie):
    """The web of so many places that has these ties and one that is not among them."""
    return (many, tuple(sorted(ties + (tie,))))


def is_free(web, thing):
    """Whether the thing, which may be anything, is a tie that can be put."""
    return is_tie(web[0], thing) and thing not in web[1]


def free_ties(web):
    """All ties that can be put, in order."""
    many = web[0]
    pairs = [(a, b) for a in range(many) for b in range(many)]
    return [tie for tie in pairs if is_free(web, tie)]


def with_tie(web, tie):
    """The web with one tie more."""
    check_web(web)
    if not is_free(web, tie):
        raise NoTie("this is no tie that can be put")
    return widened(web[0], web[1], tie)


def without(web, tie):
    """The web without a tie of its own."""
    check_web(web)
    many, ties = web
    # A tie first: to Python True is equal to 1.
    if not is_tie(many, tie) or tie not in ties:
        raise NoTie("this is no tie of the web")
    narrowed = (many, tuple([other for other in ties if other != tie]))
    if not is_web(narrowed):
        raise Apart("without this tie the places would not hang together")
    return narrowed


def more(web, a, b, tie):
    """By how much the mean steps from a to b are more with a tie more."""
    former = web_mean(web, a, b)
    return minus(web_mean(with_tie(web, tie), a, b), former)


def best_tie(web, a, b):
    """The tie more by which the mean steps from a to b are fewest, None where none makes them fewer."""
    check_ends(web, a, b)
    best = None
    fewest = web_mean(web, a, b)
    for tie in free_ties(web):
        steps = web_mean(with_tie(web, tie), a, b)
        if is_less(steps, fewest):
            best = tie
            fewest = steps
    return best
