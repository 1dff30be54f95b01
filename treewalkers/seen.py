"""How long a walker goes until it has seen all places, and which one it sees last.

A set of places is a whole number with a bit for each place.
"""

from treewalkers.exact import ONE, ZERO, common_bottom, fraction, times
from treewalkers.means import balanced
from treewalkers.walks import MOST_STEPS, check_steps, weights_behind
from treewalkers.webs import check_few, check_place, check_web, degrees, tied_to

# Each number of neighbours that a place has where there are at most six, from 1 to 5, divides it.
PARTS = 60


def set_of_all(many):
    return (1 << many) - 1


def with_place(places, place):
    return places | (1 << place)


def has_place(places, place):
    return with_place(places, place) == places


def value_until_seen(web, place, ends, added):
    """What comes together in the mean until a walker from the place has seen all.

    Each step adds the same whole number, and the place that is seen last adds its fraction of ends.
    """
    everywhere = set_of_all(web[0])
    values = {everywhere: ends}
    # A set with a place more is a greater number, so going down it is done ahead.
    for places in range(everywhere - 1, 0, -1):
        if has_place(places, place):
            values[places] = values_at(web, places, values, added)
    return values[with_place(0, place)][place]


def values_at(web, places, values, added):
    """The value from each place of the set while just these are seen, values having those of the sets beyond."""
    beyond = [place for place in range(web[0]) if not has_place(places, place)]
    onward = {place: values[with_place(places, place)][place] for place in beyond}
    # The equations are between whole numbers: all is taken so many times.
    common = common_bottom(list(onward.values()))
    given = {place: top * (common // bottom) for place, (top, bottom) in onward.items()}
    found = balanced(web, given, [common * added * degree for degree in degrees(web)])
    return [times(value, (1, common)) for value in found]


def steps_seeing(web):
    """For each set of places seen and each place what a step leads to."""
    many, ties = web
    following = {}
    for place in range(many):
        near = tied_to(ties, place)
        for places in range(set_of_all(many) + 1):
            following[(places, place)] = [(with_place(places, other), other) for other in near]
    return following


def seen_mean(web, place):
    """The mean number of steps until a walker from the place has seen all."""
    check_web(web)
    check_place(web, place)
    check_few(web)
    return value_until_seen(web, place, [ZERO] * web[0], 1)


def seen_last(web, place):
    """For each place the chance that it is the one that a walker from the place sees last."""
    check_web(web)
    check_place(web, place)
    check_few(web)
    many = web[0]
    alone = [[ONE if other == last else ZERO for other in range(many)] for last in range(many)]
    return tuple([value_until_seen(web, place, ends, 0) for ends in alone])


def seen_by(web, place, steps):
    """The chance that a walker from the place has seen all behind so many steps."""
    check_web(web)
    check_place(web, place)
    check_steps(steps, MOST_STEPS)
    check_few(web)
    everywhere = set_of_all(web[0])
    weights = weights_behind((with_place(0, place), place), steps_seeing(web), steps, PARTS)
    done = sum([weight for (places, here), weight in weights.items() if places == everywhere])
    return fraction(done, sum(weights.values()))
