"""Mean steps on trees, by counting places alone."""

from treewalkers.webs import apart, check_place, check_tree, distances, nearer_place, part, part_beyond


def steps_over(places):
    """The mean steps over a tie on whose first side so many places lie."""
    return 2 * places - 1


def counted_means(tree, goal):
    """The mean steps from each place to the goal, a tuple."""
    many, ties = tree
    far = distances(ties, goal)
    found = {goal: 0}
    # The nearer places stand first in far, so the next place on the way is found ahead of each one.
    for place in far:
        if place != goal:
            following = nearer_place(ties, far, place)
            found[place] = found[following] + steps_over(len(part_beyond(ties, following, place)))
    return tuple([found[place] for place in range(many)])


def over(tree, a, b):
    """The mean steps over the tie from a to its neighbour b."""
    return steps_over(len(part(tree, b, a)))


def tree_mean(tree, a, b):
    """The mean steps from a to b."""
    check_tree(tree)
    check_place(tree, a)
    check_place(tree, b)
    return counted_means(tree, b)[a]


def there_and_back(tree, a, b):
    """The mean steps from a to b and back again."""
    check_tree(tree)
    return 2 * len(tree[1]) * apart(tree, a, b)


def means_to(tree, place):
    """The mean steps from each place to the place, a tuple."""
    check_tree(tree)
    check_place(tree, place)
    return counted_means(tree, place)


def greatest(tree):
    """The greatest mean steps between two places, from a to b: (number, a, b), of several the least (a, b)."""
    check_tree(tree)
    found = [(-number, a, b) for b in range(tree[0]) for a, number in enumerate(counted_means(tree, b))]
    # Below 0, so that the least tuple has the greatest number and then the least places.
    number, a, b = min(found)
    return (-number, a, b)


def middles(tree):
    """The places to which the mean steps from all places, together, are least, a rising tuple."""
    check_tree(tree)
    sums = [sum(counted_means(tree, place)) for place in range(tree[0])]
    return tuple([place for place, number in enumerate(sums) if number == min(sums)])
