"""A desk, which is told rows and leads a bench by them."""

from treewalkers.bench import Bench
from treewalkers.codes import code
from treewalkers.errors import NoLine
from treewalkers.texts import FIGURES, written
from treewalkers.webs import is_tree

DONE = "ok"


def tie_of(figures):
    """The two places as a tie has them, whichever comes first in the row."""
    return tuple(sorted(figures))


def put_place(bench, figures):
    bench.place(figures[0])
    return DONE


def put_tie(bench, figures):
    bench.tie(tie_of(figures))
    return DONE


def cut_tie(bench, figures):
    bench.cut(tie_of(figures))
    return DONE


def undo_deed(bench, figures):
    bench.undo()
    return DONE


def tell_web(bench, figures):
    return written(bench.web())


def tell_mean(bench, figures):
    top, bottom = bench.mean(figures[0], figures[1])
    return f"{top}/{bottom}"


def tell_hindrance(bench, figures):
    top, bottom = bench.hindrance(figures[0], figures[1])
    return f"{top}/{bottom}"


def tell_tree(bench, figures):
    return "yes" if is_tree(bench.web()) else "no"


def tell_code(bench, figures):
    return " ".join([str(place) for place in code(bench.web())])


ANSWERS = {
    "place": put_place,
    "tie": put_tie,
    "cut": cut_tie,
    "undo": undo_deed,
    "web": tell_web,
    "mean": tell_mean,
    "hinder": tell_hindrance,
    "tree": tell_tree,
    "code": tell_code,
}

# How many figures stand behind the first word of a row.
FIGURES_BEHIND = {
    "place": 1,
    "tie": 2,
    "cut": 2,
    "undo": 0,
    "web": 0,
    "mean": 2,
    "hinder": 2,
    "tree": 0,
    "code": 0,
}


def is_figure(word):
    return len(word) == 1 and word in FIGURES


def is_row(thing):
    """Whether the thing, which may be anything, is a row that a desk takes."""
    if not isinstance(thing, str):
        return False
    first, *rest = thing.split(" ")
    if first not in FIGURES_BEHIND or len(rest) != FIGURES_BEHIND[first]:
        return False
    return all([is_figure(word) for word in rest])


class Desk:
    """A bench that is led by rows."""

    def __init__(self):
        self.bench = Bench()

    def say(self, row):
        """Does what the row tells, and answers it."""
        if not is_row(row):
            raise NoLine("this is no row that a desk takes")
        first, *rest = row.split(" ")
        answer = ANSWERS[first]
        return answer(self.bench, [int(word) for word in rest])
