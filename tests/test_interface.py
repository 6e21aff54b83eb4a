"""The names, arguments, attributes and properties of the interface, as they are written there."""

import importlib
import inspect
import unittest

FUNCTIONS = {
    "patterns": {
        "is_pattern": "many value", "all_patterns": "many", "how_many_patterns": "many", "is_sharing": "staff value", "pattern_of": "staff sharing",
    },
    "facts": {
        "all_facts": "steps", "is_fact": "steps value", "opposite": "fact", "clash": "steps facts", "shows_clash": "steps facts value",
        "fixed": "steps facts", "fits": "steps pattern facts", "facts_of": "steps pattern", "pattern_by": "steps facts",
    },
    "rules": {
        "is_rule": "steps value", "keeps": "steps rule pattern", "surely_broken": "steps rule facts", "surely_kept": "steps rule facts",
    },
    "matchings": {"sharing_of": "staff pattern", "unfit": "staff pattern", "shows_unfit": "staff facts value"},
    "books": {
        "broken": "book sharing", "verdict": "book *facts", "shows_sharing": "book value *facts", "shows_shut": "book value *facts",
    },
    "compared": {
        "fates": "book *facts", "sure": "book *facts", "shows_fate": "book value *facts", "hands": "book step *facts",
        "shows_hand": "book step value *facts",
    },
    "alike": {"implied": "steps one other", "shows_implied": "steps one other value", "needless": "steps rules"},
    "numbers": {
        "ways_of": "staff pattern", "counts": "book *facts", "how_many": "book *facts", "all_sharings": "book *facts",
        "at_number": "book number *facts", "number_of": "book sharing *facts",
    },
    "least": {
        "fewest_hands": "book *facts", "least_drop": "book *facts", "shows_fewest": "book value *facts", "shows_drop": "book value *facts",
    },
    "absences": {
        "stands": "book many", "shows_stands": "book many value", "stoppers": "book", "shows_stoppers": "book value", "critical": "book",
    },
    "leavings": {"keeps_on": "book many", "shows_keeps_on": "book many value"},
    "told": {name: "staff menu let refused" for name in ["told_back", "rule_fates", "asked_next"]},
    "texts": {
        "show_book": "book", "show_sharing": "staff sharing", "show_facts": "steps facts", "read_book": "text", "read_sharing": "staff text",
        "read_facts": "steps text",
    },
    "costs": {
        "cost_of": "staff costs sharing", "cheapest": "book costs *facts", "shows_cheapest": "book costs value *facts",
        "shows_priced": "book costs bound value *facts", "by_cost": "book costs *facts", "how_cheap": "book costs bound *facts",
    },
    "grants": {
        "granted": "staff grants", "fewest_grants": "book *facts", "shows_grants": "book value *facts", "nearest": "book was *facts",
        "shows_nearest": "book was value *facts",
    },
    "prices": {name: "book costs *facts" for name in ["without_rules", "without_people", "rule_prices", "person_prices"]},
}

# For each class what it takes, its methods with what they take, and its properties.
CLASSES = {
    "staffs": {"Staff": ("steps people", {
        "group": "name", "list_of": "name", "able": "step", "people": "", "without": "names", "only": "step name",
    }, ["steps", "names", "groups"], ["__contains__", "__len__", "__eq__"])},
    "books": {"Book": ("staff rules", {"without": "numbers"}, ["steps", "rules"], ["__len__", "__getitem__", "__eq__"])},
    "leavings": {"Keeper": ("book many", {"leave": "names", "give": "", "copy": ""}, ["done", "gone", "is_ended"], ["__len__"])},
    "cases": {"Case": ("book befores", {
        "ready": "", "who": "step", "do": "step name", "undo": "", "rest": "", "forced": "", "copy": "",
    }, ["befores", "done", "is_ended"], ["__len__", "__contains__"])},
    "desks": {"Desk": ("steps", {
        "make_staff": "", "make_book": "", "verdict": "", "shows_shut": "value", "put": "rule", "withdraw": "number", "hire": "person",
        "part": "name", "mark": "", "back_to": "number", "copy": "",
    }, ["steps", "numbers", "changed"], ["__getitem__", "__contains__", "__len__"])},
}


def module(name):
    return importlib.import_module("unlikehands." + name)


def taken(thing):
    """The words of what a function takes; what may be passed by name alone has a star, and () if it is left out."""
    words = []
    for name, one in inspect.signature(thing).parameters.items():
        if name != "self":
            star = "*" if one.kind is one.KEYWORD_ONLY else ""
            assert one.kind in (one.KEYWORD_ONLY, one.POSITIONAL_OR_KEYWORD)
            assert one.default == () if star else one.default is one.empty
            words.append(star + name)
    return " ".join(words)


class InterfaceTest(unittest.TestCase):
    def test_functions(self):
        for name, functions in FUNCTIONS.items():
            for word, due in functions.items():
                found = vars(module(name))[word]
                self.assertTrue(inspect.isfunction(found), word)
                self.assertEqual([found.__module__, found.__name__], ["unlikehands." + name, word])
                self.assertEqual(taken(found), due, word)

    def test_generators(self):
        for name, word in [("patterns", "all_patterns"), ("numbers", "all_sharings"), ("costs", "by_cost")]:
            self.assertTrue(inspect.isgeneratorfunction(vars(module(name))[word]))

    def test_classes(self):
        for name, classes in CLASSES.items():
            for word, (due, methods, properties, others) in classes.items():
                found = vars(module(name))[word]
                self.assertEqual([found.__module__, found.__name__, found.__bases__], ["unlikehands." + name, word, (object,)])
                self.assertEqual(taken(found.__init__), due)
                # Each of them stands in the body of the class itself.
                for method, what in methods.items():
                    self.assertTrue(inspect.isfunction(vars(found)[method]))
                    self.assertEqual(taken(vars(found)[method]), what, method)
                for one in properties:
                    self.assertIsInstance(vars(found)[one], property)
                for one in ["__init__", *others]:
                    self.assertIn(one, vars(found))


if __name__ == "__main__":
    unittest.main()
