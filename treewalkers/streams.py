"""Streams between two places, what they cost, and the even one among them."""

from treewalkers.errors import NoStream
from treewalkers.exact import ONE, ZERO, are_fractions, minus, times, total
from treewalkers.means import balanced
from treewalkers.webs import check_ends


def more_going(web, stream, place):
    """How much more goes from the place than comes."""
    goes = [much for (lesser, greater), much in zip(web[1], stream) if lesser == place]
    comes = [much for (lesser, greater), much in zip(web[1], stream) if greater == place]
    return minus(total(goes), total(comes))


def is_stream(web, a, b, thing):
    """Whether the thing, which may be anything, is a stream from a to b."""
    check_ends(web, a, b)
    many, ties = web
    if not are_fractions(thing, len(ties)):
        return False
    more = [more_going(web, thing, place) for place in range(many)]
    # Where all else is right it is right at b too.
    return all([more[place] == (ONE if place == a else ZERO) for place in range(many) if place != b])


def cost(web, a, b, stream):
    """The sum of the stream's fractions, each times itself."""
    if not is_stream(web, a, b, stream):
        raise NoStream("this is no stream between these places")
    return total([times(much, much) for much in stream])


def heights(web, a, b):
    """How high each place is for the even stream from a to b, a tuple."""
    check_ends(web, a, b)
    return balanced(web, {b: 0}, [1 if place == a else 0 for place in range(web[0])])


def even(web, a, b):
    """The stream by which on each tie goes as much as its lesser place is higher than its greater one."""
    high = heights(web, a, b)
    return tuple([minus(high[lesser], high[greater]) for lesser, greater in web[1]])


def hindrance(web, a, b):
    """How high a is for the even stream from a to b."""
    high = heights(web, a, b)
    return high[a]
