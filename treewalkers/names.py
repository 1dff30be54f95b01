"""Names of trees: one for all that are alike but for the numbers of their places; and the best and worst trees."""

from treewalkers.errors import NoNumber
from treewalkers.exact import is_less, is_whole
from treewalkers.seen import seen_mean
from treewalkers.ties import widened
from treewalkers.trees import greatest
from treewalkers.webs import FEW_PLACES, FEWEST_PLACES, check_few, check_tree

SMALLEST_NAME = (2, ((0, 1),))


def orders(many):
    """All orders of the numbers from 0 up to many, many left out."""
    found = [()]
    for number in range(many):
        found = [order[:at] + (number,) + order[at:] for order in found for at in range(number + 1)]
    return found


def renumbered(tree, order):
    """The tree with each place numbered anew, by what the order has for it."""
    many, ties = tree
    anew = [(min(order[a], order[b]), max(order[a], order[b])) for a, b in ties]
    return (many, tuple(sorted(anew)))


def name(tree):
    """The least tree that the tree becomes when its places are numbered anew."""
    check_tree(tree)
    check_few(tree)
    return min([renumbered(tree, order) for order in orders(tree[0])])


def grown(tree):
    """The trees with a place more, tied to each place of the tree."""
    many, ties = tree
    return [widened(many + 1, ties, (place, many)) for place in range(many)]


def names(many):
    """The names of all trees of so many places, a rising list."""
    if not is_whole(many) or not FEWEST_PLACES <= many <= FEW_PLACES:
        raise NoNumber("this is no such number of places")
    found = [SMALLEST_NAME]
    # Each tree has a place at an end; so it grows from the name of what is left without that place.
    while found[0][0] < many:
        found = sorted({name(larger) for tree in found for larger in grown(tree)})
    return found


def greatest_steps(tree):
    """The greatest mean steps between two places, a fraction."""
    return (greatest(tree)[0], 1)


def greatest_seen(tree):
    """The mean number of steps until all is seen, from the place from which it is greatest."""
    return best_of([seen_mean(tree, place) for place in range(tree[0])], True)


def best_of(fractions, most):
    """The greatest fraction if the most is asked for, else the least one."""
    best = fractions[0]
    for one in fractions:
        better = is_less(best, one) if most else is_less(one, best)
        if better:
            best = one
    return best


def those_with_best(trees, fractions, most):
    """The best fraction, and the list of the trees that have it."""
    best = best_of(fractions, most)
    return (best, [tree for tree, one in zip(trees, fractions) if one == best])


def by_steps(many, most):
    trees = names(many)
    best, having = those_with_best(trees, [greatest_steps(tree) for tree in trees], most)
    return (best[0], having)


def by_seen(many, most):
    trees = names(many)
    return those_with_best(trees, [greatest_seen(tree) for tree in trees], most)


def longest(many):
    """The most that the greatest mean steps of a tree of so many places are, and the names of those that have it."""
    return by_steps(many, True)


def shortest(many):
    """The least that the greatest mean steps of a tree of so many places are, and the names of those that have it."""
    return by_steps(many, False)


def slowest(many):
    """The most mean steps until all is seen, from the worst place, and the names of the trees that have it."""
    return by_seen(many, True)


def quickest(many):
    """The least mean steps until all is seen, from the worst place, and the names of the trees that have it."""
    return by_seen(many, False)
