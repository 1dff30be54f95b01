"""Where a walker stands behind so many steps, the ways of so many steps, and shares that are stepped."""

from treewalkers.errors import NoNumber, NoShares
from treewalkers.exact import ONE, ZERO, are_fractions, fraction, is_whole, times, total
from treewalkers.webs import check_place, check_web, degrees, tied_to

MOST_STEPS = 30


def check_steps(thing, most):
    if not is_whole(thing) or not 0 <= thing <= most:
        raise NoNumber("this is no such number of steps")


def is_shares(web, thing):
    """Whether the thing, which may be anything, is shares of the web."""
    if not are_fractions(thing, web[0]):
        return False
    return all([top >= 0 for top, bottom in thing]) and total(thing) == ONE


def shares_behind_step(web, shares):
    many, ties = web
    going = [times(share, (1, degree)) for share, degree in zip(shares, degrees(web))]
    return tuple([total([going[near] for near in tied_to(ties, place)]) for place in range(many)])


def weights_behind(start, following, steps, parts):
    """A dict of what may be behind so many steps from the start, each with a whole number in proportion to its chance.

    The dict following has for all that may be a list of what a step leads to, each as likely; parts is a whole number
    that the length of each list divides. So no fractions need be brought to lowest terms on the way.
    """
    weights = {start: 1}
    for step in range(steps):
        further = {}
        for state, weight in weights.items():
            share = weight * (parts // len(following[state]))
            for other in following[state]:
                further[other] = further.get(other, 0) + share
        weights = further
    return weights


def after(web, place, steps):
    """For each place the chance that a walker from the place stands there behind so many steps."""
    check_web(web)
    check_place(web, place)
    check_steps(steps, MOST_STEPS)
    shares = tuple([ONE if other == place else ZERO for other in range(web[0])])
    for step in range(steps):
        shares = shares_behind_step(web, shares)
    return shares


def ways(web, a, b, steps):
    """In how many ways one comes from a to b by just so many steps."""
    check_web(web)
    check_place(web, a)
    check_place(web, b)
    check_steps(steps, MOST_STEPS)
    many, ties = web
    numbers = [1 if place == a else 0 for place in range(many)]
    for step in range(steps):
        numbers = [sum([numbers[near] for near in tied_to(ties, place)]) for place in range(many)]
    return numbers[b]


def stepped(web, shares):
    """The shares behind one step."""
    check_web(web)
    if not is_shares(web, shares):
        raise NoShares("these are no shares of the web")
    return shares_behind_step(web, shares)


def still(web):
    """The shares that a step leaves as they are."""
    check_web(web)
    return tuple([fraction(degree, 2 * len(web[1])) for degree in degrees(web)])


def is_still(web, thing):
    """Whether the thing, which may be anything, is the still shares."""
    told = still(web)
    # Fractions first: to Python True is equal to 1.
    return are_fractions(thing, len(told)) and thing == told
