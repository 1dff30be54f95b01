"""Two walkers: the sides of a web, and how long they go until they meet."""

from treewalkers.exact import ZERO, fraction, solved
from treewalkers.walks import check_steps, weights_behind
from treewalkers.webs import check_few, check_place, check_web, distances, tied_to

MOST_STEPS_AT_ONCE = 20
# 60 times 60: each number of neighbours that a place has where there are at most six, from 1 to 5, divides 60.
PARTS_OF_TWO = 3600


def sides(web):
    """The two tuples of places between which all ties lead, the one with 0 first; None where there are none such."""
    check_web(web)
    check_few(web)
    return sides_of(web)


def sides_of(web):
    many, ties = web
    far = distances(ties, 0)
    # A step leads to the other side, so a place is on the side of 0 just if it is evenly far from it. Of two that are
    # tied the one is at most one tie further, so they are on one side just if they are as far.
    if any([far[a] == far[b] for a, b in ties]):
        return None
    even_places = [place for place in range(many) if far[place] % 2 == 0]
    odd_places = [place for place in range(many) if far[place] % 2 == 1]
    return (tuple(even_places), tuple(odd_places))


def never_meet(web, a, b):
    """Whether two walkers that go at once never can meet."""
    found = sides_of(web)
    return found is not None and (a in found[0]) != (b in found[0])


def steps_by_turns(web):
    """For each pair of places, of the walker that goes and the other one, the pairs that its step leads to."""
    many, ties = web
    # Behind the step the other one goes, so it stands first.
    return {(a, b): [(b, near) for near in tied_to(ties, a)] for a in range(many) for b in range(many)}


def steps_at_once(web):
    """For each pair of places the pairs that a step of both leads to."""
    many, ties = web
    near = [tied_to(ties, place) for place in range(many)]
    return {(a, b): [(c, d) for c in near[a] for d in near[b]] for a in range(many) for b in range(many)}


def pairs_until_met(start, following):
    """All pairs of unlike places that may be until they meet, the start first."""
    found = [start]
    at = 0
    # The list grows ahead of the index until no pair leads to one that is new.
    while at < len(found):
        options = following[found[at]]
        for pair in options:
            if pair[0] != pair[1] and pair not in found:
                found.append(pair)
        at += 1
    return found


def mean_until_met(start, following):
    """The mean number of steps until both places of the pair are one; from each pair they can be one."""
    if start[0] == start[1]:
        return ZERO
    pairs = pairs_until_met(start, following)
    # From each pair one comes to where they are met; so there is just one answer, and no leading number becomes 0.
    return solved([equation_until_met(pair, pairs, following[pair]) for pair in pairs])[0]


def equation_until_met(pair, pairs, options):
    """The pair's number is 1 more than those of the options, together, through how many they are."""
    row = [-options.count(other) for other in pairs]
    row[pairs.index(pair)] += len(options)
    return row + [len(options)]


def check_walkers(web, a, b):
    check_web(web)
    check_place(web, a)
    check_place(web, b)


def by_turns(web, a, b):
    """The mean number of steps, of both together, until walkers from a and b, going by turns, stand on one place."""
    check_walkers(web, a, b)
    check_few(web)
    return mean_until_met((a, b), steps_by_turns(web))


def at_once(web, a, b):
    """The mean number of steps of both until walkers from a and b meet behind one; None where they never can."""
    check_walkers(web, a, b)
    check_few(web)
    if never_meet(web, a, b):
        return None
    return mean_until_met((a, b), steps_at_once(web))


def met_by(web, a, b, steps):
    """The chance that walkers from a and b, going at once, stood on one place behind at most so many steps."""
    check_walkers(web, a, b)
    check_steps(steps, MOST_STEPS_AT_ONCE)
    check_few(web)
    following = steps_at_once(web)
    for place in range(web[0]):
        # Once met they have met, wherever they go.
        following[(place, place)] = [(place, place)]
    weights = weights_behind((a, b), following, steps, PARTS_OF_TWO)
    met = sum([weight for (c, d), weight in weights.items() if c == d])
    return fraction(met, sum(weights.values()))
