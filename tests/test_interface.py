"""The interface: each name that it lists, with its arguments."""

import importlib
import inspect
import unittest

FUNCTIONS = {
    "webs": "is_web(thing) neighbours(web,place) apart(web,a,b) is_tree(web) way(tree,a,b) part(tree,a,b)",
    "texts": "written(web) read(text)",
    "walks": "after(web,place,steps) ways(web,a,b,steps) stepped(web,shares) still(web) is_still(web,thing)",
    "trees": "over(tree,a,b) tree_mean(tree,a,b) there_and_back(tree,a,b) means_to(tree,place) greatest(tree) "
             "middles(tree)",
    "means": "means(web,goal) is_means(web,goal,thing) back(web,place) ahead(web,place,one,other) drawn(web)",
    "streams": "is_stream(web,a,b,thing) cost(web,a,b,stream) even(web,a,b) heights(web,a,b) hindrance(web,a,b)",
    "papers": "is_paper(web,a,b,thing) shows(web,a,b,paper) paper_for(web,a,b)",
    "ties": "with_tie(web,tie) without(web,tie) more(web,a,b,tie) best_tie(web,a,b)",
    "meets": "sides(web) by_turns(web,a,b) at_once(web,a,b) met_by(web,a,b,steps)",
    "seen": "seen_mean(web,place) seen_last(web,place) seen_by(web,place,steps)",
    "codes": "code(tree) by_code(code)",
    "names": "name(tree) names(many) longest(many) shortest(many) slowest(many) quickest(many)",
}

METHODS = {
    ("bench", "Bench"): "place(a) tie(tie) cut(tie) undo() web() mean(a,b) hindrance(a,b)",
    ("desk", "Desk"): "say(row)",
}


def shape(name, function):
    """The function as the interface writes it; one that may be left out, or has no place of its own, shows as more."""
    return f"{name}{inspect.signature(function)}".replace(" ", "")


class InterfaceTest(unittest.TestCase):
    def test_functions(self):
        for module, listed in FUNCTIONS.items():
            known = importlib.import_module(f"treewalkers.{module}")
            for one in listed.split():
                name = one.split("(")[0]
                with self.subTest(module=module, function=one):
                    self.assertEqual(shape(name, getattr(known, name)), one)

    def test_classes(self):
        for (module, name), listed in METHODS.items():
            kind = getattr(importlib.import_module(f"treewalkers.{module}"), name)
            made = kind()
            for one in listed.split():
                with self.subTest(kind=name, method=one):
                    method = one.split("(")[0]
                    self.assertEqual(shape(method, getattr(made, method)), one)


if __name__ == "__main__":
    unittest.main()
