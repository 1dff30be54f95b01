"""Papers: a stream and levels between two places, which show bounds of the hindrance."""

from treewalkers.errors import NoPaper
from treewalkers.exact import ONE, ZERO, are_fractions, minus, times, total
from treewalkers.means import chances_ahead
from treewalkers.streams import cost, even, is_stream
from treewalkers.webs import check_ends


def is_levels(web, a, b, thing):
    """Whether the thing, which may be anything, is levels for the two places."""
    return are_fractions(thing, web[0]) and thing[a] == ONE and thing[b] == ZERO


def drop(web, levels):
    """The sum, over all ties, of how much more the one place has than the other, times itself."""
    falls = [minus(levels[lesser], levels[greater]) for lesser, greater in web[1]]
    return total([times(fall, fall) for fall in falls])


def is_paper(web, a, b, thing):
    """Whether the thing, which may be anything, is a paper for the two places."""
    check_ends(web, a, b)
    if not isinstance(thing, tuple) or len(thing) != 2:
        return False
    stream, levels = thing
    return is_stream(web, a, b, stream) and is_levels(web, a, b, levels)


def shows(web, a, b, paper):
    """What the hindrance is no less than and what it is no more than."""
    if not is_paper(web, a, b, paper):
        raise NoPaper("this is no paper for these places")
    stream, levels = paper
    # From 1 to 0 there is a fall on some tie, so the drop is above 0.
    top, bottom = drop(web, levels)
    return ((bottom, top), cost(web, a, b, stream))


def paper_for(web, a, b):
    """The paper that shows the hindrance twice."""
    stream = even(web, a, b)
    # The heights through the hindrance are the chances to come to a ahead of b.
    return (stream, chances_ahead(web, a, b))
