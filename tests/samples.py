"""What several test files use: webs, things that are none, and what refusals are checked with."""

import copy
from fractions import Fraction
from functools import lru_cache
from itertools import combinations, permutations, product
from math import gcd

from treewalkers import errors
from treewalkers.bench import Bench
from treewalkers.desk import Desk

PAIR = (2, ((0, 1),))
LINE = (3, ((0, 1), (1, 2)))
TREE = (4, ((0, 1), (0, 2), (2, 3)))
STAR = (8, tuple((0, b) for b in range(1, 8)))
LONG = (8, tuple((a, a + 1) for a in range(7)))
RING = (4, ((0, 1), (0, 3), (1, 2), (2, 3)))
RING_OF_EIGHT = (8, ((0, 1), (0, 7), (1, 2), (2, 3), (3, 4), (4, 5), (5, 6), (6, 7)))
FULL = (8, tuple(combinations(range(8), 2)))
KITE = (5, ((0, 1), (0, 2), (1, 2), (2, 3), (3, 4)))

WEBS = (PAIR, LINE, TREE, STAR, LONG, RING, RING_OF_EIGHT, FULL, KITE)
TREES = (PAIR, LINE, TREE, STAR, LONG)
RINGED = (RING, RING_OF_EIGHT, FULL, KITE)

DEEP = ((((((1,),),),),),)

NO_WEBS = (
    # how many places there are
    (1, ()), (0, ()), (-1, ()), (1, ((0, 1),)), (-2, ((0, 1),)),
    (9, tuple((a, a + 1) for a in range(8))), (10 ** 29, ((0, 1),)),
    (True, ()), (True, ((0, 1),)), (False, ()), ("2", ((0, 1),)), (None, ((0, 1),)), ([2], ((0, 1),)),
    # lists in the place of tuples
    [2, ((0, 1),)], (2, [(0, 1)]), (2, ([0, 1],)), [2, [[0, 1]]], (3, ((0, 1), [1, 2])),
    # ties that are not as they are to be
    (3, ((1, 2), (0, 1))), (3, ((0, 1), (0, 1), (1, 2))), (2, ((0, 1), (0, 1))),
    (2, ((1, 0),)), (3, ((0, 1), (2, 1))), (3, ((1, 0), (1, 2))),
    (2, ((0, 0), (0, 1))), (2, ((0, 1), (1, 1))),
    (2, ((0, 2),)), (2, ((0, 1), (0, 2))), (2, ((0, 1), (1, 2))), (2, ((-1, 0), (0, 1))), (8, STAR[1] + ((7, 8),)),
    (2, ((0, True),)), (2, ((False, 1),)), (2, ((False, True),)), (3, ((0, 1), (True, 2))),
    (2, (("0", "1"),)), (2, ((0, "1"),)), (2, ((None, 1),)), (2, ((0, None),)), (2, (([0], 1),)), (2, ((0, (1,)),)),
    (2, ("01",)), (2, (0, 1)), (2, (None,)), (2, ({0: 1},)), (2, ((0, 1), None)), (2, (None, (0, 1))),
    (2, ((0,),)), (2, ((),)), (2, ((0, 1, 1),)), (3, ((0, 1), (0, 1, 2), (1, 2))), (3, ((0, 1), (1,), (1, 2))),
    (2, "01"), (2, None), (2, {(0, 1): True}), (2, 1), (2, True), (2, {}),
    # too short, too long
    (), (2,), (((0, 1),),), (2, ((0, 1),), ()), (2, ((0, 1),), None), (2, 0, 1),
    # not hanging together
    (2, ()), (3, ((0, 1),)), (3, ((1, 2),)), (4, ((0, 1), (2, 3))), (4, ((1, 2), (1, 3), (2, 3))),
    (8, tuple(combinations(range(7), 2))), (6, ((0, 1), (0, 2), (1, 2), (3, 4), (3, 5), (4, 5))),
    # other kinds of things
    None, True, False, 0, 2, -7, 10 ** 29, "", "2: 0-1", "ab", [], {}, {2: ((0, 1),)}, {"many": 2, "ties": [[0, 1]]},
    DEEP, (2, DEEP), (DEEP, DEEP), [[[[[[]]]]]], {"a": {"b": {"c": [1, (2, None)]}}}, (2, tuple(range(490))),
    (2, ((0, 1),) * 150), b"2: 0-1", 2.0, (2.0, ((0, 1),)), (2, ((0, 1.0),)), (2, ((0.0, 1),)),
)

# None of these is a place of any web.
NO_PLACES = (
    -1, -8, 8, 9, 10 ** 29, -10 ** 29, True, False, None, "", "0", "1", [], [0], (), (0,), (0, 1), {}, {0: 1}, 0.0, 1.0,
    b"0", DEEP,
)


def all_webs(many):
    """Every web of so many places, found apart from the program: what a place 0 leads to is spread tie by tie."""
    ties = list(combinations(range(many), 2))
    webs = []
    for picked in range(2 ** len(ties)):
        chosen = tuple(tie for at, tie in enumerate(ties) if picked >> at & 1)
        reached = {0}
        for time in range(many):
            for a, b in chosen:
                if a in reached or b in reached:
                    reached |= {a, b}
        if len(reached) == many:
            webs.append((many, chosen))
    return webs


def table_of_distances(web):
    """How far all places are apart, by ways over one more place at a time."""
    many, ties = web
    far = [[0 if a == b else 99 for b in range(many)] for a in range(many)]
    for a, b in ties:
        far[a][b] = far[b][a] = 1
    for over in range(many):
        for a in range(many):
            for b in range(many):
                far[a][b] = min(far[a][b], far[a][over] + far[over][b])
    return far


def assert_refused(case, error, function, *things):
    """The function refuses the things with just this class, twice alike, and leaves them as they were."""
    ahead = copy.deepcopy(things)
    for time in range(2):
        with case.subTest(function=function.__name__, things=things):
            with case.assertRaises(errors.WalkError) as caught:
                function(*things)
            case.assertIs(caught.exception.__class__, error)
            case.assertEqual(repr(things), repr(ahead))


def assert_told(case, told, function, *things):
    """The function tells just this, of the same kinds throughout, twice alike, and leaves the things as they were."""
    ahead = copy.deepcopy(things)
    for time in range(2):
        with case.subTest(function=function.__name__, things=things):
            # The texts of both differ where 1 and True, or tuples and lists, are mixed up.
            case.assertEqual(repr(function(*things)), repr(told))
            case.assertEqual(repr(things), repr(ahead))


# What follows is for what is told by fractions.

WHEEL = (6, ((0, 1), (0, 2), (0, 3), (0, 4), (0, 5), (1, 2), (1, 5), (2, 3), (3, 4), (4, 5)))
BUG = (7, ((0, 1), (0, 2), (0, 3), (1, 2), (2, 6), (3, 4), (4, 5)))
FORK = (6, ((0, 3), (1, 3), (2, 4), (3, 4), (4, 5)))
LIMBS = (7, ((0, 6), (1, 5), (2, 5), (3, 4), (3, 6), (5, 6)))

MORE_WEBS = WEBS + (WHEEL, BUG, FORK, LIMBS)
MORE_TREES = TREES + (FORK, LIMBS)

# None of these is a fraction.
NO_FRACTIONS = (
    (2, 4), (-2, 4), (0, 2), (0, 5), (6, 3), (10 ** 29, 10 ** 29), (3 * 10 ** 28, 9 * 10 ** 28),
    (1, 0), (0, 0), (-1, 0), (1, -2), (-1, -2), (0, -1), (1, -1), (-1, -1),
    [1, 2], [0, 1], [], (), (1,), (1, 2, 1), (0, 1, 1), ((1, 2),), ((1, 3), (1, 3)), ((1, 2), 1), (1, (2, 1)),
    (True, 1), (1, True), (True, True), (False, 1), (0, True), (False, True), (True, 2), (1, None), (None, 1),
    ("1", 2), (1, "2"), ("1", "2"), "12", "1/2", "", 0, 1, -1, 10 ** 29, True, False, None, {1: 2}, {}, ([1], 2),
    (1.0, 2), (1, 2.0), 0.5, 0.0, 1.0, b"12", DEEP,
)

# None of these is a number of steps that is taken anywhere.
NO_STEPS = (
    -1, 31, -2, -30, 32, 60, 10 ** 29, -10 ** 29, True, False, None, "", "0", "3", [], [3], (), (3,), (3, 1), {},
    {3: 3}, 0.0, 3.0, b"3", DEEP,
)

# None of these is shares, means or a stream of any web.
ANYTHING = NO_WEBS + WEBS + NO_PLACES + NO_STEPS + NO_FRACTIONS


def pair(number):
    """The fraction, as the program has it, of a number that has a numerator and a denominator."""
    number = Fraction(number)
    return (number.numerator, number.denominator)


def pairs(*numbers):
    return tuple(pair(number) for number in numbers)


def numbers(fractions):
    return [Fraction(top, bottom) for top, bottom in fractions]


def nearby(web, place):
    """The places that are tied to the place, found apart from the program."""
    return [a + b - place for a, b in web[1] if place in (a, b)]


def walks_from(web, place, steps):
    """All walks of so many steps from the place, one by one, each with its chance."""
    walks = [((place,), Fraction(1))]
    for time in range(steps):
        walks = [(walk + (near,), chance / len(nearby(web, walk[-1])))
                 for walk, chance in walks for near in nearby(web, walk[-1])]
    return walks


def assert_fractions(case, told, many):
    """What is told is a tuple of so many fractions."""
    case.assertIs(told.__class__, tuple)
    case.assertEqual(len(told), many)
    for one in told:
        assert_fraction(case, one)


def assert_fraction(case, told):
    case.assertIs(told.__class__, tuple)
    top, bottom = told
    case.assertIs(top.__class__, int)
    case.assertIs(bottom.__class__, int)
    case.assertGreaterEqual(bottom, 1)
    case.assertEqual(gcd(top, bottom), 1)


def spoiled(fractions):
    """The tuple of fractions, changed in many ways, each to what is no tuple of so many fractions."""
    yield list(fractions)
    yield [list(one) for one in fractions]
    yield dict(enumerate(fractions))
    yield str(fractions)
    yield (fractions,)
    yield fractions[:-1]
    yield fractions[1:]
    yield fractions + ((0, 1),)
    yield ((0, 1),) + fractions
    yield fractions + fractions
    for at, (top, bottom) in enumerate(fractions):
        # The same number, written so as no fraction is.
        alike = [(2 * top, 2 * bottom), (-top, -bottom), [top, bottom], (top, bottom, 1), f"{top}/{bottom}"]
        alike += [(bool(top), bottom)] if top in (0, 1) else []
        alike += [(top, True), (top,), top] if bottom == 1 else []
        for other in alike + list(NO_FRACTIONS):
            yield fractions[:at] + (other,) + fractions[at + 1:]


def some_webs(many, step=1):
    """Webs of so many places, picked here and there from all choices of ties."""
    ties = list(combinations(range(many), 2))
    found = []
    for time in range(1, 60, step):
        picked = time * 2654435761 % 2 ** len(ties)
        chosen = [tie for at, tie in enumerate(ties) if picked >> at & 1]
        # A line through all places makes each choice hang together.
        line = [(place, place + 1) for place in range(many - 1)] if time % 2 else [(0, b) for b in range(1, many)]
        found.append((many, tuple(sorted(set(chosen + line)))))
    return found


def tree_by_parents(parents):
    """The tree of which each place but 0 is tied to a lesser one, its parent."""
    return (len(parents) + 1, tuple(sorted((parent, at + 1) for at, parent in enumerate(parents))))


def grown_trees(many):
    """All trees that grow from 0, each place put to a lesser one."""
    return [tree_by_parents(parents) for parents in product(*[range(place) for place in range(1, many)])]


def renumbered(web, order):
    """The web with each place numbered as the order tells."""
    many, ties = web
    return (many, tuple(sorted(tuple(sorted((order[a], order[b]))) for a, b in ties)))


# What follows is for what is told of one tie more or less, of two walkers and of all that is seen.

FEW_WEBS = tuple(web for web in MORE_WEBS if web[0] <= 6)
LARGE_WEBS = tuple(web for web in MORE_WEBS if web[0] > 6)

# None of these is a tie of places of any web, nor one that can be put.
NO_TIES = (
    (1, 0), (2, 0), (7, 6), (0, 0), (1, 1), (7, 7), (0, 8), (7, 8), (-1, 0), (-1, 1), (-2, -1), (8, 9), (0, 10 ** 29),
    (-10 ** 29, 1), (0, True), (False, 1), (False, True), (True, 2), (False, 2), (True, 7), (0, None), (None, 1),
    (0, "1"), ("0", 1), ("0", "1"), (0, 1.0), (0.0, 1), (0, (1,)), ([0], 1), [0, 1], [0, 2], [1, 2], [0, 7], [], (),
    (0,), (1,), (0, 1, 2), (0, 1, 1), ((0, 1),), ((0, 1), (1, 2)), "01", "0-1", "", b"01", {0: 1}, {}, {0, 1}, 0, 1,
    10 ** 29, True, False, None, 1.0, DEEP,
)


def some_pairs(web):
    """Some pairs of unlike places, in both orders."""
    return list(permutations(range(web[0]), 2))[::max(1, web[0] - 3)]


def solved_by_fractions(rows):
    """The numbers that meet the equations, each row having what its numbers come to as its last one."""
    table = [[Fraction(one) for one in row] for row in rows]
    for at in range(len(table)):
        lead = next(k for k in range(at, len(table)) if table[k][at])
        table[at], table[lead] = table[lead], table[at]
        table[at] = [one / table[at][at] for one in table[at]]
        for k in range(len(table)):
            if k != at and table[k][at]:
                times = table[k][at]
                table[k] = [one - times * other for one, other in zip(table[k], table[at])]
    return [row[-1] for row in table]


def values_by_words(web, given, added):
    """Of each given place the given number, of any other one the neighbours' mean and what is added by a step."""
    rows = []
    for place in range(web[0]):
        row = [Fraction(0)] * (web[0] + 1)
        row[place] = Fraction(1)
        row[-1] = Fraction(given.get(place, added))
        if place not in given:
            for near in nearby(web, place):
                row[near] -= Fraction(1, len(nearby(web, place)))
        rows.append(row)
    return solved_by_fractions(rows)


@lru_cache(None)
def steps_to_some(web, goals):
    """From each place the mean number of steps until a walker stands on one of the goals."""
    return tuple(values_by_words(web, {goal: 0 for goal in goals}, 1))


@lru_cache(None)
def chances_to_one(web, one, others):
    """From each place the chance that a walker comes to the one ahead of all others."""
    return tuple(values_by_words(web, {one: 1, **{other: 0 for other in others}}, 0))


def choices(places):
    for many in range(len(places) + 1):
        yield from combinations(places, many)


@lru_cache(None)
def seen_mean_by_words(web, place):
    """All is seen when the last place is: the greatest of several times is told by the least of each choice of them."""
    return sum((-1) ** (len(goals) + 1) * steps_to_some(web, goals)[place]
               for goals in choices(range(web[0])) if goals)


# What follows leads benches and desks.


def deeds_to(web):
    """Deeds by which a bench comes from its first web to the web: all places, then all ties, then those too many."""
    many, ties = web
    star = [(0, b) for b in range(1, many)]
    deeds = [("place", 0) for place in range(2, many)]
    deeds += [("tie", tie) for tie in ties if tie not in star]
    return deeds + [("cut", tie) for tie in star if tie not in ties]


def led_bench(web):
    bench = Bench()
    for deed, thing in deeds_to(web):
        getattr(bench, deed)(thing)
    return bench


def led_desk(web):
    desk = Desk()
    for deed, thing in deeds_to(web):
        figures = [thing] if deed == "place" else list(thing)
        desk.say(" ".join([deed] + [str(figure) for figure in figures]))
    return desk
