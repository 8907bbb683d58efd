"""The names and arguments of the interface, each in its own file, each method in its own class."""

import importlib
import inspect
import unittest

FUNCTIONS = {
    "checks": {"is_integer": "value", "is_within": "value least most", "is_numbers": "value", "first_twice": "values"},
    "papers": {"fixed": "value"},
    "counts": {"is_counts": "value", "counts_of": "row", "plus": "one other", "less": "one other",
               "times": "one other", "moved": "counts number", "divided": "counts by"},
    "trees": {"is_tree": "rule value", "size_of": "rule tree", "layers_of": "rule tree", "tree_text": "rule tree",
              "read_tree": "rule text"},
    "stores": {"power_of": "number"},
    "things": {"is_thing": "rule store value", "thing_size": "rule store thing", "thing_text": "rule store thing",
               "read_thing": "rule store text", "things_to": "rule store size", "shifted": "rule one other thing"},
    "steps": {"can_step": "rule store step", "step_store": "rule store step", "step_thing": "rule store step thing",
              "back_thing": "rule store step thing"},
    "chains": {"meeting": "chain"},
    "check_chains": {"shows_led": "rule one other value"},
    "alike": {"alike": "rule one other"},
    "powers": {"powers": "rule", "alike_powers": "rule one other"},
    "check_alike": {"shows_alike": "rule one other value", "shows_powers": "rule value"},
    "idle": {"idle_store": "rule", "idle_chain": "rule", "beside_idle": "rule store", "opened_to": "rule store number"},
    "contraries": {"contrary": "rule number", "contrary_of": "rule store"},
    "between": {"chain_between": "rule one other"},
    "patterns": {"is_pattern": "rule store value", "holes_of": "rule store pattern", "fits": "rule store pattern thing",
                 "trees_in": "rule store pattern thing", "filled": "rule store pattern trees",
                 "within": "rule store one other", "common": "rule store one other",
                 "opened_at": "rule store pattern hole", "boxes_of": "rule store",
                 "pattern_text": "rule store pattern", "read_pattern": "rule store text"},
    "lots": {"full": "rule store lot", "finer": "rule store one other", "hole_counts": "rule store lot"},
    "check_lots": {"shows_full": "rule store lot value"},
    "looks": {"looks": "rule store lot", "number_by": "rule store lot ways thing"},
    "check_looks": {"shows_looks": "rule store lot value"},
    "made": {"nothing_done": "rule store", "table_of": "chain"},
    "same": {"same": "one other"},
    "check_tables": {"shows_same": "one other value"},
    "sizes": {"trees_of": "rule size", "things_of": "rule store size", "unlike_size": "rule one other"},
    "numbered": {"thing_at": "rule store size number", "number_of": "rule store thing"},
    "keeping": {"keeps_size": "table"},
    "check_sizes": {"shows_keeping": "table value"},
}

CLASSES = {
    "papers": {"Paper": {"__init__": "self word *parts", "__eq__": "self other"},
               "Denial": {"__init__": "self word *parts", "__eq__": "self other"}},
    "rules": {"Rule": {"__init__": "self counts", "read": "text", "__str__": "self", "__eq__": "self other"}},
    "stores": {"Store": {"__init__": "self counts", "read": "text", "has": "self box", "plus": "self other",
                         "times": "self other", "__str__": "self", "__eq__": "self other"}},
    "chains": {"Chain": {"__init__": "self rule begin steps", "__len__": "self", "__eq__": "self other",
                         "stores": "self", "run": "self thing", "back": "self thing", "backwards": "self",
                         "joined": "self other", "beside": "self store", "under": "self number",
                         "times": "self store"},
               "Led": {"__init__": "self steps"}},
    "alike": {"Divided": {"__init__": "self quotient"}, "Finite": {"__init__": "self which"},
              "Undivided": {"__init__": "self left"}},
    "powers": {"Round": {"__init__": "self number factors"}, "Never": {"__init__": "self why what"}},
    "lots": {"Full": {"__init__": "self"}, "Twofold": {"__init__": "self thing one other"},
             "Missed": {"__init__": "self thing"}},
    "looks": {"Looked": {"__init__": "self ways"}, "Stuck": {"__init__": "self pattern"}},
    "tables": {"Table": {"__init__": "self rule one other pairs", "__eq__": "self other", "run": "self thing",
                         "back": "self thing", "backwards": "self", "then": "self other", "beside": "self other"}},
    "same": {"Same": {"__init__": "self"}, "Parted": {"__init__": "self thing"}},
    "keeping": {"Keeps": {"__init__": "self"}, "Changes": {"__init__": "self thing"}},
}


def arguments(made):
    return " ".join(str(one) for one in inspect.signature(made).parameters.values())


class Interface(unittest.TestCase):
    def test_functions(self):
        for module, functions in FUNCTIONS.items():
            held = importlib.import_module("sevenasone." + module)
            for name, wanted in functions.items():
                made = getattr(held, name)
                self.assertEqual(made.__module__, held.__name__, name)
                self.assertEqual(arguments(made), wanted, name)

    def test_classes(self):
        for module, classes in CLASSES.items():
            held = importlib.import_module("sevenasone." + module)
            for name, methods in classes.items():
                made = getattr(held, name)
                self.assertEqual(made.__module__, held.__name__, name)
                for method, wanted in methods.items():
                    self.assertIn(method, vars(made), name)
                    own = vars(made)[method]
                    self.assertEqual(arguments(own.__func__ if isinstance(own, staticmethod) else own), wanted, method)


if __name__ == "__main__":
    unittest.main()
