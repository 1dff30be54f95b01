"""Points 2 and 6: webs written and read."""

import unittest

from treewalkers.errors import NoText, NoWeb
from treewalkers.texts import read, written

from tests.samples import (
    DEEP, FULL, KITE, LINE, LONG, NO_WEBS, PAIR, RING, RING_OF_EIGHT, STAR, TREE, WEBS,
    all_webs, assert_refused, assert_told,
)

TEXTS = (
    (PAIR, "2: 0-1"),
    (LINE, "3: 0-1 1-2"),
    (TREE, "4: 0-1 0-2 2-3"),
    (RING, "4: 0-1 0-3 1-2 2-3"),
    (KITE, "5: 0-1 0-2 1-2 2-3 3-4"),
    (STAR, "8: 0-1 0-2 0-3 0-4 0-5 0-6 0-7"),
    (LONG, "8: 0-1 1-2 2-3 3-4 4-5 5-6 6-7"),
    (RING_OF_EIGHT, "8: 0-1 0-7 1-2 2-3 3-4 4-5 5-6 6-7"),
)

NO_TEXTS = (
    # blanks
    "4:  0-1 0-2 2-3", "4: 0-1  0-2 2-3", "4:0-1 0-2 2-3", "4: 0-10-2 2-3", " 4: 0-1 0-2 2-3", "4: 0-1 0-2 2-3 ",
    "4 : 0-1 0-2 2-3", "4: 0 -1 0-2 2-3", "4: 0- 1 0-2 2-3", "4: 0-1 0-22-3",
    # ties that are not as they are to be
    "4: 0-2 0-1 2-3", "4: 2-3 0-2 0-1", "4: 0-1 0-1 0-2 2-3", "4: 0-1 0-2 2-3 2-3", "4: 1-0 0-2 2-3", "4: 0-1 0-2 3-2",
    "4: 0-0 0-1 0-2 2-3", "4: 0-1 0-2 2-3 3-3", "4: 0-1 0-2 2-4", "4: 0-1 0-2 2-3 3-4", "4: 0-1 0-2 2-9",
    "4: 0-1 0-2 -1-3", "4: 0-1 0-2 2-", "4: 0-1 0-2 2", "4: 0-1 0-2 -3", "4: 0-1 0-2 a-3", "4: 0-1 0-2 2-b",
    # how many places there are
    "1:", "1: 0-1", "0:", "2:", "9: 0-1 0-2 0-3 0-4 0-5 0-6 0-7 0-8", "10: 0-1", "-2: 0-1", "+2: 0-1", "02: 0-1",
    "2.0: 0-1", "two: 0-1", ": 0-1", "2: 00-1", "2: 0-01", "2: +0-1", "2: 0-1_",
    # not hanging together
    "3: 0-1", "3: 1-2", "4: 0-1 2-3", "4: 1-2 1-3 2-3",
    # other signs
    "2; 0-1", "2 0-1", "2: 0+1", "2: 0_1", "2: 0,1", "2:\t0-1", "2:\n0-1", "2: 0-1\n", "2: 0-1\t", "\n2: 0-1",
    "\t2: 0-1", "2: 0-1\r", "2: 0-1\n2: 0-1", "4: 0-1\t0-2 2-3", "4: 0-1\n0-2 2-3", "2: 0-1;", "2: 0--1", "2: 0-1 ",
    "2: 0-1  ", "2: 0-1 0", "2: 0-1 0-", "2:: 0-1", "2: 0-\u0661", "\u00b2: 0-1", "\uff12: 0-1", "2:\u00a00-1",
    "", " ", ":", "\n", "\t", "2", "2:", "2: ", "2: 0", "2: 0-", "(2, ((0, 1),))", "web", "~" * 300, "2" * 300,
    "0-1" * 100, "2:" + " 0-1" * 74,
)

NO_STRINGS = (
    None, True, False, 0, 2, -3, 10 ** 29, [], ["2: 0-1"], ("2: 0-1",), list("2: 0-1"), tuple("2: 0-1"), {},
    {"2: 0-1": True}, (), PAIR, TREE, DEEP, b"2: 0-1", 2.0,
)


class WrittenTest(unittest.TestCase):
    def test_webs(self):
        for web, text in TEXTS:
            assert_told(self, text, written, web)

    def test_the_fullest_web(self):
        text = written(FULL)
        self.assertEqual(len(text), 2 + 4 * 28)
        self.assertTrue(text.startswith("8: 0-1 0-2 "))
        self.assertTrue(text.endswith(" 5-6 5-7 6-7"))

    def test_refusals(self):
        for thing in NO_WEBS:
            assert_refused(self, NoWeb, written, thing)


class ReadTest(unittest.TestCase):
    def test_texts(self):
        for web, text in TEXTS:
            assert_told(self, web, read, text)

    def test_what_is_written_is_read_to_the_same_web(self):
        for web in WEBS:
            assert_told(self, web, read, written(web))
        for many in (2, 3, 4, 5):
            for web in all_webs(many):
                self.assertEqual(read(written(web)), web)

    def test_other_texts(self):
        for text in NO_TEXTS:
            assert_refused(self, NoText, read, text)

    def test_other_kinds_of_things(self):
        for thing in NO_STRINGS:
            assert_refused(self, NoText, read, thing)

    def test_each_text_with_one_sign_changed(self):
        webs = {written(web): web for many in (2, 3, 4, 5) for web in all_webs(many)}
        for web, text in TEXTS[:5]:
            for changed in changed_texts(text):
                if changed in webs:
                    self.assertEqual(read(changed), webs[changed], changed)
                else:
                    assert_refused(self, NoText, read, changed)


def changed_texts(text):
    """The text with a sign taken out, put in or put in the place of another one, at each place."""
    for at in range(len(text) + 1):
        yield text[:at] + text[at + 1:]
        for sign in " :-012345\t\na":
            yield text[:at] + sign + text[at:]
            yield text[:at] + sign + text[at + 1:]


if __name__ == "__main__":
    unittest.main()
