"""Webs: places and the ties between them; and trees, the webs without rings."""

from treewalkers.errors import NoPlace, NoTie, NoTree, NoTwo, NoWeb, TooMany
from treewalkers.exact import is_whole

FEWEST_PLACES = 2
MOST_PLACES = 8
# What is told by pairs or sets of places, or by numbering anew, is told of webs with at most so many.
FEW_PLACES = 6


def is_place(many, thing):
    return is_whole(thing) and 0 <= thing < many


def is_tie(many, thing):
    """Whether the thing is a tuple of two of so many places, the lesser one first."""
    if not isinstance(thing, tuple) or len(thing) != 2:
        return False
    a, b = thing
    return is_place(many, a) and is_place(many, b) and a < b


def is_rising(things):
    return all([one < following for one, following in zip(things, things[1:])])


def tied_to(ties, place):
    """The places that the ties lead to from the place, a rising tuple."""
    lesser = [a for a, b in ties if b == place]
    greater = [b for a, b in ties if a == place]
    return tuple(sorted(lesser + greater))


def distances(ties, start):
    """A dict of each place to which one comes from the start, with the fewest ties that lead there."""
    found = {start: 0}
    edge = [start]
    while edge:
        beyond = []
        for place in edge:
            for near in tied_to(ties, place):
                if near not in found:
                    found[near] = found[place] + 1
                    beyond.append(near)
        edge = beyond
    return found


def nearer_place(ties, far, here):
    """The neighbour by which one comes nearer in a tree, far being the distances from where one goes."""
    # Without rings just one neighbour is nearer.
    return [near for near in tied_to(ties, here) if far[near] < far[here]][0]


def part_beyond(ties, a, b):
    """The places to which one comes from b without the tie of a and b, a rising tuple."""
    tie = (min(a, b), max(a, b))
    others = [other for other in ties if other != tie]
    return tuple(sorted(distances(others, b)))


def degrees(web):
    """How many neighbours each place has, a list."""
    many, ties = web
    return [len(tied_to(ties, place)) for place in range(many)]


def is_web(thing):
    """Whether the thing, which may be anything, is a web."""
    if not isinstance(thing, tuple) or len(thing) != 2:
        return False
    many, ties = thing
    if not is_whole(many) or not FEWEST_PLACES <= many <= MOST_PLACES:
        return False
    # Things that are no ties may not compare at all, so each is looked at alone first.
    if not isinstance(ties, tuple) or not all([is_tie(many, tie) for tie in ties]):
        return False
    return is_rising(ties) and len(distances(ties, 0)) == many


def check_web(thing):
    if not is_web(thing):
        raise NoWeb("this is no web")


def check_place(web, thing):
    if not is_place(web[0], thing):
        raise NoPlace("this is no place of the web")


def check_two(a, b):
    if a == b:
        raise NoTwo("the two places are one")


def check_ends(web, a, b):
    """Refuses what is no web, and then what are no two unlike places of it."""
    check_web(web)
    check_place(web, a)
    check_place(web, b)
    check_two(a, b)


def check_few(web):
    if web[0] > FEW_PLACES:
        raise TooMany("this web has too many places")


def check_tree(thing):
    # What is no web is refused by is_tree itself, ahead of this.
    if not is_tree(thing):
        raise NoTree("this web is no tree")


def neighbours(web, place):
    """The places that are tied to the place, a rising tuple."""
    check_web(web)
    check_place(web, place)
    return tied_to(web[1], place)


def apart(web, a, b):
    """The fewest ties that lead from a to b."""
    check_web(web)
    check_place(web, a)
    check_place(web, b)
    return distances(web[1], a)[b]


def is_tree(web):
    """Whether the web has one tie fewer than places."""
    check_web(web)
    many, ties = web
    return len(ties) == many - 1


def way(tree, a, b):
    """The places on the way from a to b, both among them."""
    check_tree(tree)
    check_place(tree, a)
    check_place(tree, b)
    far = distances(tree[1], b)
    places = [a]
    while places[-1] != b:
        places.append(nearer_place(tree[1], far, places[-1]))
    return tuple(places)


def part(tree, a, b):
    """The places to which one comes from b without the tie of a and b, a rising tuple; or a refusal."""
    check_tree(tree)
    check_place(tree, a)
    check_place(tree, b)
    if b not in tied_to(tree[1], a):
        raise NoTie("these two places are not tied")
    return part_beyond(tree[1], a, b)
