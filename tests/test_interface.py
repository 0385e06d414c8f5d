import importlib
import inspect
import unittest

FUNCTIONS = {
    "trees": {
        "is_tree": ["value"], "cons": ["first", "second"], "head": ["tree"], "tail": ["tree"],
        "number": ["value"], "value_of": ["tree"], "list_of": ["trees"], "items_of": ["tree"],
    },
    "programs": {
        "is_program": ["value"], "width": ["program"], "code": ["program"], "decode": ["tree"],
        "text": ["program"], "parse": ["line"],
    },
    "running": {
        "first_state": ["x"], "step": ["program", "state"], "run": ["program", "x", "steps"],
        "after": ["program", "x", "steps"],
    },
    "building": {
        "constant": ["tree"], "chain": ["programs"], "both": ["first", "second"],
        "choice": ["condition", "first", "second"], "loop": ["condition", "body"],
    },
    "filling": {"filled": ["program", "tree"], "filler": []},
    "universe": {"universal": [], "tower": ["programs", "x"]},
    "knowing": {"knowing": ["program"], "bearer": ["program"], "fixed_point": ["program"], "myself": []},
    "rings": {"together": ["programs"], "ring": ["count"]},
    "defeats": {
        "says_yes": ["decider", "program", "steps"], "defeat": ["decider", "yes", "no"], "liar": ["program"],
    },
    "order": {
        "count": ["pairs"], "rank": ["tree"], "unrank": ["number"], "following": ["tree"],
        "padded": ["program", "many"], "programs_up_to": ["most"],
    },
    "claims": {"is_claim": ["value"], "is_shown": ["claim"], "claim_text": ["claim"], "read_claim": ["line"]},
}

CONSTANTS = {
    "trees": {"MOST_TREE": 200000}, "programs": {"MOST_CODE": 600, "REGISTERS": 20}, "rings": {"MOST_RING": 8},
    "order": {"MOST_PAIRS": 30, "MOST_LISTED": 8},
}


class Interface(unittest.TestCase):
    def test_functions_are_defined_where_they_are_listed(self):
        for file, functions in FUNCTIONS.items():
            module = importlib.import_module("narcissus." + file)
            for name, arguments in functions.items():
                with self.subTest(file=file, name=name):
                    found = getattr(module, name)
                    self.assertEqual(found.__module__, "narcissus." + file)
                    self.assertEqual(list(inspect.signature(found).parameters), arguments)

    def test_constants(self):
        for file, constants in CONSTANTS.items():
            module = importlib.import_module("narcissus." + file)
            for name, value in constants.items():
                with self.subTest(file=file, name=name):
                    self.assertEqual(getattr(module, name), value)


if __name__ == "__main__":
    unittest.main()
