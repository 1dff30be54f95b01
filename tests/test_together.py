"""Point 3: what is told hangs together, at many webs."""

import unittest
from fractions import Fraction
from itertools import combinations

from treewalkers.codes import by_code, code
from treewalkers.means import ahead, back, is_means, means
from treewalkers.names import longest, name, names, quickest, shortest, slowest
from treewalkers.papers import is_paper, paper_for, shows
from treewalkers.seen import seen_last, seen_mean
from treewalkers.streams import cost, even, heights, hindrance, is_stream
from treewalkers.ties import best_tie, more, with_tie, without
from treewalkers.texts import read, written
from treewalkers.trees import greatest, means_to, there_and_back, tree_mean
from treewalkers.walks import after, is_still, still, stepped, ways
from treewalkers.webs import apart, is_tree, neighbours

from tests.samples import (
    MORE_TREES, MORE_WEBS, all_webs, grown_trees, led_bench, led_desk, numbers, pair, pairs, renumbered, some_pairs,
    some_webs,
)

MANY_TREES = list(MORE_TREES) + [web for many in (2, 3, 4) for web in all_webs(many) if len(web[1]) == many - 1]
MANY_TREES += grown_trees(5) + grown_trees(6)[::3] + grown_trees(7)[::40] + grown_trees(8)[::300]
MANY_WEBS = list(MORE_WEBS) + [web for many in (2, 3, 4) for web in all_webs(many)] + all_webs(5)[::9]
MANY_WEBS += some_webs(6, 5) + some_webs(7, 9) + some_webs(8, 12)


def go_round(web):
    """Amounts that go round some ring of the web, at each place as much as comes; none where it is a tree."""
    many, ties = web
    for a, b in ties:
        others = tuple(tie for tie in ties if tie != (a, b))
        reached = {a: (a,)}
        for time in range(many):
            for c, d in others:
                for here, there in ((c, d), (d, c)):
                    if here in reached and there not in reached:
                        reached[there] = reached[here] + (there,)
        if b in reached:
            steps = list(zip(reached[b], reached[b][1:])) + [(b, a)]
            return [steps.count(tie) - steps.count(tie[::-1]) for tie in ties]
    return None


def free_ties(web):
    return [tie for tie in combinations(range(web[0]), 2) if tie not in web[1]]


class MeansTest(unittest.TestCase):
    def test_by_counting_and_by_equations(self):
        for tree in MANY_TREES:
            for goal in range(tree[0]):
                counted = means_to(tree, goal)
                self.assertEqual(means(tree, goal), pairs(*counted), (tree, goal))
                self.assertIs(is_means(tree, goal, pairs(*counted)), True)
                self.assertEqual(counted, tuple(tree_mean(tree, a, goal) for a in range(tree[0])))

    def test_by_streams(self):
        # The means to b are as high as a web in which to each place comes as much as it has neighbours; and one place
        # is as high by what comes to another one as that one by what comes to it.
        for web in MANY_WEBS:
            for a, b in some_pairs(web):
                high = numbers(heights(web, a, b))
                by_streams = sum(len(neighbours(web, place)) * high[place] for place in range(web[0]))
                self.assertEqual(means(web, b)[a], pair(by_streams), (web, a, b))

    def test_there_and_back(self):
        for web in MANY_WEBS:
            for a, b in some_pairs(web):
                there, again = numbers((means(web, b)[a], means(web, a)[b]))
                due = 2 * len(web[1]) * Fraction(*hindrance(web, a, b))
                self.assertEqual(there + again, due, (web, a, b))
        for tree in MANY_TREES:
            for a, b in some_pairs(tree):
                self.assertEqual(hindrance(tree, a, b), (apart(tree, a, b), 1), (tree, a, b))
                due = 2 * len(tree[1]) * Fraction(*hindrance(tree, a, b))
                self.assertEqual(there_and_back(tree, a, b), due, (tree, a, b))

    def test_back_is_1_through_the_still_share(self):
        for web in MANY_WEBS + MANY_TREES:
            shares = numbers(still(web))
            for place in range(web[0]):
                self.assertEqual(back(web, place), pair(1 / shares[place]), (web, place))


class StreamsTest(unittest.TestCase):
    def test_the_even_stream_costs_the_hindrance(self):
        for web in MANY_WEBS:
            for a, b in some_pairs(web):
                self.assertEqual(cost(web, a, b, even(web, a, b)), hindrance(web, a, b), (web, a, b))

    def test_any_other_stream_costs_more(self):
        for web in MANY_WEBS:
            ring = go_round(web)
            if ring is None:
                continue
            for a, b in some_pairs(web):
                for much in (Fraction(1, 100), Fraction(-2, 3), 1):
                    amounts = [one + much * other for one, other in zip(numbers(even(web, a, b)), ring)]
                    self.assertIs(is_stream(web, a, b, pairs(*amounts)), True)
                    more = Fraction(*cost(web, a, b, pairs(*amounts)))
                    self.assertGreater(more, Fraction(*hindrance(web, a, b)), (web, a, b, much))

    def test_the_other_way(self):
        for web in MANY_WEBS:
            for a, b in some_pairs(web):
                self.assertEqual(hindrance(web, a, b), hindrance(web, b, a), (web, a, b))
                other_way = pairs(*[-one for one in numbers(even(web, a, b))])
                self.assertEqual(even(web, b, a), other_way, (web, a, b))

    def test_heights_are_the_chances_times_the_hindrance(self):
        for web in MANY_WEBS[::3]:
            for a, b in some_pairs(web):
                high = Fraction(*hindrance(web, a, b))
                chances = numbers([ahead(web, place, a, b) for place in range(web[0])])
                self.assertEqual(heights(web, a, b), pairs(*[high * chance for chance in chances]), (web, a, b))


class PapersTest(unittest.TestCase):
    def test_the_paper_told_shows_the_hindrance_twice(self):
        for web in MANY_WEBS:
            for a, b in some_pairs(web):
                paper = paper_for(web, a, b)
                self.assertIs(is_paper(web, a, b, paper), True)
                self.assertEqual(shows(web, a, b, paper), (hindrance(web, a, b),) * 2, (web, a, b))
                self.assertEqual(paper[0], even(web, a, b), (web, a, b))
                self.assertEqual(paper[1], tuple(ahead(web, place, a, b) for place in range(web[0])), (web, a, b))

    def test_each_paper_shows_bounds(self):
        for web in MANY_WEBS:
            ring = go_round(web) or [0] * len(web[1])
            for a, b in some_pairs(web):
                high = Fraction(*hindrance(web, a, b))
                stream, levels = paper_for(web, a, b)
                for much in (Fraction(1, 1000), Fraction(-3, 4), 5):
                    amounts = [one + much * other for one, other in zip(numbers(stream), ring)]
                    value = numbers(levels)
                    value = [one if place in (a, b) else one + much * (place + 1) for place, one in enumerate(value)]
                    low, top = numbers(shows(web, a, b, (pairs(*amounts), pairs(*value))))
                    self.assertEqual(low < high, web[0] > 2, (web, a, b, much))
                    self.assertEqual(high < top, any(ring), (web, a, b, much))
                    self.assertTrue(low <= high <= top, (web, a, b, much))


class TiesTest(unittest.TestCase):
    def test_a_tie_more_and_away_again(self):
        for web in MANY_WEBS:
            for tie in free_ties(web):
                wider = with_tie(web, tie)
                self.assertEqual(without(wider, tie), web, (web, tie))
                self.assertEqual(set(wider[1]), set(web[1]) | {tie}, (web, tie))

    def test_what_a_tie_changes(self):
        for web in MANY_WEBS[::3]:
            for tie in free_ties(web)[::2]:
                wider = with_tie(web, tie)
                for a, b in some_pairs(web):
                    due = Fraction(*means(wider, b)[a]) - Fraction(*means(web, b)[a])
                    self.assertEqual(more(web, a, b, tie), pair(due), (web, a, b, tie))
                    # With a tie more there are more streams, so none costs more than it did.
                    one, other = numbers((hindrance(wider, a, b), hindrance(web, a, b)))
                    self.assertLessEqual(one, other, (web, a, b, tie))

    def test_the_best_tie_is_better(self):
        for web in MANY_WEBS[::3]:
            for a, b in some_pairs(web):
                tie = best_tie(web, a, b)
                if tie is not None:
                    self.assertLess(more(web, a, b, tie)[0], 0, (web, a, b))


class WalksTest(unittest.TestCase):
    def test_chances_are_shares_and_still_shares_stay(self):
        for web in MANY_WEBS[::2]:
            self.assertIs(is_still(web, still(web)), True)
            for steps in (0, 1, 2, 7):
                told = after(web, 0, steps)
                self.assertEqual(sum(numbers(told)), 1)
                self.assertEqual(stepped(web, told), after(web, 0, steps + 1), (web, steps))

    def test_ways_there_and_back_are_as_many(self):
        for web in MANY_WEBS[::2]:
            for a, b in some_pairs(web):
                self.assertEqual(ways(web, a, b, 9), ways(web, b, a, 9), (web, a, b))


class CodesAndNamesTest(unittest.TestCase):
    def test_codes_and_trees_tell_one_another(self):
        for tree in MANY_TREES:
            if tree[0] > 2:
                self.assertEqual(by_code(code(tree)), tree, tree)
                # A place is written once less than it has neighbours.
                written_times = [code(tree).count(place) + 1 for place in range(tree[0])]
                self.assertEqual(written_times, [len(neighbours(tree, place)) for place in range(tree[0])], tree)

    def test_a_name_is_told_as_the_tree_but_for_numbers(self):
        for tree in [tree for tree in MANY_TREES if tree[0] <= 6][::3]:
            known = name(tree)
            self.assertIn(known, names(tree[0]))
            self.assertEqual(greatest(known)[0], greatest(tree)[0], tree)
            means_of_both = [sorted(numbers(seen_mean(one, place) for place in range(one[0]))) for one in (tree, known)]
            self.assertEqual(means_of_both[0], means_of_both[1], tree)
            self.assertEqual(name(renumbered(tree, range(tree[0])[::-1])), known, tree)

    def test_the_best_and_worst_trees_have_what_is_told(self):
        for many in range(2, 7):
            steps = {tree: greatest(tree)[0] for tree in names(many)}
            seen = {tree: max(numbers(seen_mean(tree, place) for place in range(many))) for tree in names(many)}
            for told, values, pick in ((longest(many), steps, max), (shortest(many), steps, min)):
                self.assertEqual(told[0], pick(values.values()))
                self.assertEqual(told[1], [tree for tree in names(many) if values[tree] == told[0]])
            for told, values, pick in ((slowest(many), seen, max), (quickest(many), seen, min)):
                self.assertEqual(told[0], pair(pick(values.values())))
                self.assertEqual(told[1], [tree for tree in names(many) if pair(values[tree]) == told[0]])


class SeenTest(unittest.TestCase):
    def test_of_trees_only_ends_are_seen_last(self):
        for tree in [tree for tree in MANY_TREES if tree[0] <= 6]:
            for place in range(tree[0]):
                for other, chance in enumerate(seen_last(tree, place)):
                    end = other != place and len(neighbours(tree, other)) == 1
                    self.assertTrue(end or chance == (0, 1), (tree, place, other))

    def test_no_place_is_come_to_later_than_all_are_seen(self):
        for web in [web for web in MANY_WEBS if web[0] <= 6][::2]:
            for place in range(web[0]):
                furthest = max(Fraction(*means(web, goal)[place]) for goal in range(web[0]))
                self.assertLessEqual(furthest, Fraction(*seen_mean(web, place)), (web, place))


class BenchesAndDesksTest(unittest.TestCase):
    def test_they_tell_as_of_the_web(self):
        for web in MANY_WEBS + MANY_TREES[::4]:
            bench, desk = led_bench(web), led_desk(web)
            self.assertEqual(bench.web(), web)
            self.assertEqual(desk.say("web"), written(web))
            self.assertEqual(read(desk.say("web")), web)
            self.assertEqual(desk.say("tree"), "yes" if is_tree(web) else "no")
            if is_tree(web) and web[0] > 2:
                told = tuple(int(word) for word in desk.say("code").split(" "))
                self.assertEqual(told, code(web))
                self.assertEqual(by_code(told), bench.web())
            for a, b in some_pairs(web):
                self.assertEqual(bench.mean(a, b), means(web, b)[a], (web, a, b))
                self.assertEqual(bench.hindrance(a, b), hindrance(web, a, b), (web, a, b))
                self.assertEqual(desk.say(f"mean {a} {b}"), as_text(means(web, b)[a]), (web, a, b))
                self.assertEqual(desk.say(f"hinder {a} {b}"), as_text(hindrance(web, a, b)), (web, a, b))

    def test_a_deed_is_as_the_web_with_a_tie_more_or_less(self):
        for web in MANY_WEBS[::2]:
            bench = led_bench(web)
            for tie in free_ties(web):
                former = [bench.mean(a, b) for a, b in some_pairs(web)]
                bench.tie(tie)
                self.assertEqual(bench.web(), with_tie(web, tie))
                for (a, b), one in zip(some_pairs(web), former):
                    change = Fraction(*bench.mean(a, b)) - Fraction(*one)
                    self.assertEqual(more(web, a, b, tie), pair(change), (web, a, b, tie))
                bench.undo()
                self.assertEqual(bench.web(), web)


def as_text(fraction):
    return f"{fraction[0]}/{fraction[1]}"


class ThingsStayTest(unittest.TestCase):
    def test_what_was_handed_in_may_be_changed_later(self):
        # Told again behind other questions, of things that were made anew, the answers are the same.
        web = (4, ((0, 1), (0, 3), (1, 2), (2, 3)))
        ahead_of_all = [means(web, 1), still(web), even(web, 0, 2), after(web, 3, 30), heights(web, 1, 3)]
        for other in MANY_WEBS[:40]:
            means(other, 0), still(other), even(other, 0, 1), after(other, 0, 3)
        thing = [list(one) for one in still(web)]
        self.assertIs(is_still(web, thing), False)
        thing[0][0] = 99
        self.assertIs(is_still(web, tuple(tuple(one) for one in thing)), False)
        behind = [means(web, 1), still(web), even(web, 0, 2), after(web, 3, 30), heights(web, 1, 3)]
        self.assertEqual(behind, ahead_of_all)


if __name__ == "__main__":
    unittest.main()
