"""Codes of trees: a tree as a tuple of places, and back again."""

from treewalkers.errors import NoCode, NoNumber
from treewalkers.webs import check_tree, degrees, is_place, tied_to

LONGEST_CODE = 6


def least_end(numbers):
    """The least place of which just one neighbour is left, numbers having how many are left of each."""
    return numbers.index(1)


def code(tree):
    """The neighbours of the places that are taken out until two are left, each the least one at an end."""
    check_tree(tree)
    many, ties = tree
    if many < 3:
        raise NoNumber("only a tree of three places or more has a code")
    written = []
    left = ties
    while len(left) > 1:
        end = least_end(degrees((many, left)))
        written.append(tied_to(left, end)[0])
        left = tuple([tie for tie in left if end not in tie])
    return tuple(written)


def is_code(thing):
    """Whether the thing, which may be anything, is the code of a tree."""
    if not isinstance(thing, tuple) or not 1 <= len(thing) <= LONGEST_CODE:
        return False
    return all([is_place(len(thing) + 2, place) for place in thing])


def by_code(code):
    """The tree that has the code."""
    if not is_code(code):
        raise NoCode("this is no code of a tree")
    many = len(code) + 2
    # A place has one tie more than the times it is written.
    left = [1 + code.count(place) for place in range(many)]
    ties = []
    for place in code:
        end = least_end(left)
        ties.append((min(end, place), max(end, place)))
        left[end] -= 1
        left[place] -= 1
    ties.append(tuple([place for place in range(many) if left[place] == 1]))
    return (many, tuple(sorted(ties)))
