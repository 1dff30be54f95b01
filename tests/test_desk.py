"""Points 2, 6, 20, 22 and 23: desks."""

import copy
import unittest
from itertools import product

from treewalkers import errors
from treewalkers.codes import code
from treewalkers.desk import Desk
from treewalkers.errors import Apart, NoDeed, NoLine, NoNumber, NoPlace, NoTie, NoTree, NoTwo, TooMany
from treewalkers.means import means
from treewalkers.streams import hindrance
from treewalkers.texts import written
from treewalkers.webs import is_tree

from tests.samples import (
    ANYTHING, FULL, KITE, LIMBS, LINE, LONG, MORE_WEBS, PAIR, RING, STAR, TREE, all_webs, led_desk, some_pairs,
    some_webs,
)

MANY_WEBS = list(MORE_WEBS) + [web for many in (2, 3, 4) for web in all_webs(many)] + all_webs(5)[::31]
MANY_WEBS += some_webs(6, 9) + some_webs(7, 13) + some_webs(8, 15)

# Of these rows each is one at any web, so each is answered or refused, but not with NoLine.
ROWS = [f"place {a}" for a in range(10)] + ["undo", "web", "tree", "code"]
ROWS += [f"{word} {a} {b}" for word in ("tie", "cut", "mean", "hinder") for a in range(10) for b in range(10)]

NO_ROWS = (
    # nothing, and blanks alone
    "", " ", "  ", "\n", "\t",
    # blanks ahead, behind and two between
    " web", "web ", " web ", "  web", "place  1", " place 1", "place 1 ", "place 1  ", "tie 0  2", "tie  0 2",
    "tie 0 2 ",
    " tie 0 2", "mean 0 1 ", "mean  0 1", "hinder 0 1 ", " hinder 0 1", "cut 0 1 ", "undo ", " undo", "tree ", " tree",
    "code ", " code",
    # other letters, other words
    "Web", "WEB", "wEb", "Place 1", "PLACE 1", "Tie 0 2", "webs", "we", "w", "place1", "plac 1", "places 1", "ties 0 2",
    "tie0 2", "tie 02", "undoo", "redo", "means 0 1", "hindrance 0 1", "hinders 0 1", "trees", "codes", "quit", "help",
    "ok", "yes", "no", "row", "web.", "web;", "undo!", "place A", "tie A B", "mean A B", "2: 0-1", "0", "0 1",
    "1 place",
    "0 2 tie", "none", "None",
    # tabs and line ends
    "web\n", "web\t", "\nweb", "\tweb", "place\t1", "place\n1", "place 1\n", "place 1\t", "tie 0\t2", "tie\t0 2",
    "tie 0 2\n", "tie 0\n2", "undo\n", "tree\n", "code\n", "mean 0 1\n", "hinder 0\n1", "web\nweb", "web\r",
    "place 1\r",
    "web\x0b", "web\x0c", "web\x00", "place\x0b1", "place 1\x1f",
    # figures too many, too few, and of more than one sign
    "place", "place ", "place 1 1", "place 0 ", "place 01", "place 10", "place 00", "place +1", "place -1", "place 1.",
    "place 1.0", "place a", "place one", "place (1)", "tie", "tie 0", "tie 0 ", "tie 0 2 1", "tie 0 02", "tie 00 2",
    "tie 0 -2", "tie 0,2", "tie 0-2", "tie (0, 2)", "cut", "cut 0", "cut 0 1 1", "cut 0 01", "cut 0 1 ", "undo 0",
    "undo 1", "undo undo", "web 0", "web web", "mean", "mean 0", "mean 0 1 1", "mean 0 10", "mean 10 0", "mean 0 x",
    "hinder", "hinder 0", "hinder 0 1 1", "hinder 0 12", "tree 0", "tree yes", "code 0", "code 0 0",
    # figures of other kinds
    "place \u00b2", "place \u0661", "place \uff11", "mean 0 \u0661", "tie 0 \u00b2", "place\u00a01", "place\u20071",
    # long ones
    "web" * 100, "place 1" * 42, "place " + "1" * 290, " " * 300, "~" * 300, "web " * 75,
)

NO_TEXTS = (
    None, True, False, 0, 1, -1, 10 ** 29, [], ["web"], ("web",), ("place", 1), ["place", "1"], list("web"),
    tuple("web"),
    {}, {"web": True}, {"place": 1}, (), b"web", b"place 1", 1.0, {"web"}, [["web"]],
)


class DeskCase(unittest.TestCase):
    def assert_answer(self, desk, row, answer):
        with self.subTest(row=row):
            told = desk.say(row)
            self.assertIs(told.__class__, str)
            self.assertEqual(told, answer)

    def assert_web(self, desk, web):
        self.assert_answer(desk, "web", written(web))

    def assert_refuses(self, desk, error, row):
        """The row is refused with just this class, twice alike, and nothing is changed by it."""
        web, ahead = desk.say("web"), copy.deepcopy(row)
        for time in range(2):
            with self.subTest(row=row, web=web):
                with self.assertRaises(errors.WalkError) as caught:
                    desk.say(row)
                self.assertIs(caught.exception.__class__, error)
                self.assertEqual(desk.say("web"), web)
                self.assertEqual(repr(row), repr(ahead))


class AnswersTest(DeskCase):
    def test_at_first(self):
        desk = Desk()
        for row, answer in (("web", "2: 0-1"), ("tree", "yes"), ("mean 0 1", "1/1"), ("mean 1 0", "1/1"),
                            ("mean 1 1", "0/1"), ("hinder 0 1", "1/1"), ("web", "2: 0-1")):
            self.assert_answer(desk, row, answer)

    def test_deeds(self):
        desk = Desk()
        for row, web in (("place 1", "3: 0-1 1-2"), ("place 2", "4: 0-1 1-2 2-3"), ("tie 0 3", "4: 0-1 0-3 1-2 2-3"),
                         ("cut 0 1", "4: 0-3 1-2 2-3"), ("tie 2 0", "4: 0-2 0-3 1-2 2-3"),
                         ("cut 3 2", "4: 0-2 0-3 1-2"),
                         ("undo", "4: 0-2 0-3 1-2 2-3"), ("undo", "4: 0-3 1-2 2-3"), ("undo", "4: 0-1 0-3 1-2 2-3"),
                         ("undo", "4: 0-1 1-2 2-3"), ("undo", "3: 0-1 1-2"), ("undo", "2: 0-1")):
            self.assert_answer(desk, row, "ok")
            self.assert_answer(desk, "web", web)
        self.assert_refuses(desk, NoDeed, "undo")

    def test_fractions(self):
        desk = led_desk(RING)
        self.assert_answer(desk, "mean 0 2", "4/1")
        self.assert_answer(desk, "mean 2 2", "0/1")
        self.assert_answer(desk, "hinder 0 1", "3/4")
        self.assert_answer(desk, "hinder 1 0", "3/4")
        self.assert_answer(desk, "hinder 0 2", "1/1")
        desk = led_desk(KITE)
        self.assert_answer(desk, "mean 1 0", "10/3")
        self.assert_answer(desk, "mean 0 4", "18/1")
        self.assert_answer(desk, "hinder 0 4", "8/3")

    def test_trees_and_codes(self):
        for web, answer in ((LINE, "1"), (TREE, "0 2"), (STAR, "0 0 0 0 0 0"), (LONG, "1 2 3 4 5 6"),
                            (LIMBS, "6 5 5 3 6")):
            desk = led_desk(web)
            self.assert_answer(desk, "tree", "yes")
            self.assert_answer(desk, "code", answer)
        for web in (RING, KITE, FULL):
            desk = led_desk(web)
            self.assert_answer(desk, "tree", "no")
            self.assert_refuses(desk, NoTree, "code")
        self.assert_refuses(Desk(), NoNumber, "code")

    def test_ties_and_cuts_in_either_order(self):
        for first, second in ((0, 2), (2, 0)):
            desk = led_desk(LINE)
            self.assert_answer(desk, f"tie {first} {second}", "ok")
            self.assert_answer(desk, "web", "3: 0-1 0-2 1-2")
            self.assert_answer(desk, f"cut {second} {first}", "ok")
            self.assert_web(desk, LINE)

    def test_as_of_the_web(self):
        for web in MANY_WEBS:
            desk = led_desk(web)
            self.assert_web(desk, web)
            self.assert_answer(desk, "tree", "yes" if is_tree(web) else "no")
            if is_tree(web) and web[0] > 2:
                self.assert_answer(desk, "code", " ".join(str(place) for place in code(web)))
            for a, b in some_pairs(web):
                self.assert_answer(desk, f"mean {a} {b}", "{}/{}".format(*means(web, b)[a]))
                self.assert_answer(desk, f"hinder {a} {b}", "{}/{}".format(*hindrance(web, a, b)))
            self.assert_web(desk, web)


class RefusalsTest(DeskCase):
    def test_no_ties(self):
        for web in (PAIR, LINE, RING, STAR, FULL):
            desk = led_desk(web)
            for a, b in product(range(10), repeat=2):
                tie = (min(a, b), max(a, b))
                if a == b or b >= web[0] or a >= web[0] or tie in web[1]:
                    self.assert_refuses(desk, NoTie, f"tie {a} {b}")
                if tie not in web[1]:
                    self.assert_refuses(desk, NoTie, f"cut {a} {b}")

    def test_apart(self):
        for web in (PAIR, LINE, TREE, STAR):
            desk = led_desk(web)
            for a, b in web[1]:
                self.assert_refuses(desk, Apart, f"cut {a} {b}")
                self.assert_refuses(desk, Apart, f"cut {b} {a}")

    def test_no_places(self):
        for web in (PAIR, RING, LIMBS, FULL):
            desk = led_desk(web)
            for place in range(web[0], 10):
                self.assert_refuses(desk, NoPlace, f"place {place}")
                for word in ("mean", "hinder"):
                    self.assert_refuses(desk, NoPlace, f"{word} 0 {place}")
                    self.assert_refuses(desk, NoPlace, f"{word} {place} 0")
                    self.assert_refuses(desk, NoPlace, f"{word} {place} {place}")

    def test_one_place_twice_and_too_many_places(self):
        for web in (PAIR, RING, FULL):
            desk = led_desk(web)
            for place in range(web[0]):
                self.assert_refuses(desk, NoTwo, f"hinder {place} {place}")
                self.assert_answer(desk, f"mean {place} {place}", "0/1")
        desk = led_desk(STAR)
        for place in range(8):
            self.assert_refuses(desk, TooMany, f"place {place}")
        self.assert_refuses(desk, NoPlace, "place 8")

    def test_no_deed(self):
        desk = Desk()
        self.assert_refuses(desk, NoDeed, "undo")
        desk.say("place 0")
        self.assert_refuses(desk, NoTie, "tie 0 0")
        self.assert_refuses(desk, NoLine, "place  0")
        desk.say("web"), desk.say("tree"), desk.say("mean 0 1")
        self.assert_answer(desk, "undo", "ok")
        self.assert_refuses(desk, NoDeed, "undo")


class NoRowsTest(DeskCase):
    def test_texts(self):
        for web in (PAIR, RING, FULL):
            desk = led_desk(web)
            for row in NO_ROWS:
                self.assert_refuses(desk, NoLine, row)

    def test_other_things(self):
        desk = led_desk(LINE)
        for thing in NO_TEXTS + ANYTHING:
            self.assert_refuses(desk, NoLine, thing)
        # The last deed that stands is still the one by which the desk was led here, the cut of 0 and 2.
        self.assert_answer(desk, "undo", "ok")
        self.assert_answer(desk, "web", "3: 0-1 0-2 1-2")

    def test_each_row_is_one(self):
        for row in ROWS:
            desk = led_desk(KITE)
            try:
                self.assertIs(desk.say(row).__class__, str)
            except errors.WalkError as error:
                self.assertIsNot(error.__class__, NoLine, row)

    def test_each_row_with_one_sign_changed(self):
        desk = led_desk(RING)
        rows = set(ROWS)
        for row in ("place 1", "tie 0 2", "cut 0 1", "undo", "web", "mean 0 2", "hinder 0 1", "tree", "code"):
            for at in range(len(row) + 1):
                for changed in changed_rows(row, at):
                    if changed not in rows:
                        self.assert_refuses(desk, NoLine, changed)


def changed_rows(row, at):
    """The row with a sign taken out, put in or put in the place of another one, here."""
    yield row[:at] + row[at + 1:]
    for sign in " 0a\t\n-":
        yield row[:at] + sign + row[at:]
        yield row[:at] + sign + row[at + 1:]


class TwoDesksTest(DeskCase):
    def test_they_have_nothing_in_common(self):
        one, other = Desk(), Desk()
        one.say("place 0")
        self.assert_web(other, PAIR)
        self.assert_refuses(other, NoDeed, "undo")
        other.say("place 1")
        self.assert_answer(one, "web", "3: 0-1 0-2")
        one.say("undo")
        self.assert_web(other, LINE)


if __name__ == "__main__":
    unittest.main()
