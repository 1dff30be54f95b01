"""Mean steps and chances on any webs, by equations."""

from treewalkers.exact import are_fractions, solved, times, total
from treewalkers.walks import still
from treewalkers.webs import check_ends, check_place, check_web, degrees, tied_to


def balanced(web, given, added):
    """A tuple of a fraction for each place, by equations.

    The dict given has a whole number for at least one place. The number of any other place, times how many neighbours
    it has, is the neighbours' numbers and what is added there, together.
    """
    # All places hang together with a given one; so there is just one answer, and no leading number becomes 0.
    return solved([equation(web, place, given, added) for place in range(web[0])])


def equation(web, place, given, added):
    many, ties = web
    row = [0] * many
    if place in given:
        row[place] = 1
        return row + [given[place]]
    near = tied_to(ties, place)
    for other in near:
        row[other] = -1
    row[place] = len(near)
    return row + [added[place]]


def means(web, goal):
    """For each place the mean number of steps until a walker from it first stands on the goal."""
    check_web(web)
    check_place(web, goal)
    # 1 more than the neighbours' numbers through how many they are: times these, as many more.
    return balanced(web, {goal: 0}, degrees(web))


def web_mean(web, a, b):
    """The mean number of steps from a to b, 0 where they are one."""
    check_web(web)
    check_place(web, a)
    return means(web, b)[a]


def is_means(web, goal, thing):
    """Whether the thing, which may be anything, is the means to the goal."""
    told = means(web, goal)
    # Fractions first: to Python True is equal to 1.
    return are_fractions(thing, len(told)) and thing == told


def back(web, place):
    """The mean number of steps until a walker from the place is there again."""
    check_web(web)
    check_place(web, place)
    top, bottom = still(web)[place]
    # 1 through the still share (point 3).
    return (bottom, top)


def chances_ahead(web, one, other):
    """For each place the chance that a walker from it comes to the one ahead of the other, unlike one."""
    return balanced(web, {one: 1, other: 0}, [0] * web[0])


def ahead(web, place, one, other):
    """The chance that a walker from the place comes to the one ahead of the other."""
    check_web(web)
    check_place(web, place)
    check_ends(web, one, other)
    return chances_ahead(web, one, other)[place]


def drawn(web):
    """The mean number of steps to a place that is drawn by the still shares."""
    # It is the same from each place, so it is told from 0.
    return total([times(share, means(web, goal)[0]) for goal, share in enumerate(still(web))])
