"""The names and parameters of the interface stand in the files that it names."""

import importlib
import inspect
import unittest

CLASSES = {
    "floodmark.errors": ["FloodError", "OutOfRange", "BadSystem", "BadRun", "BadBook", "BadCommand"],
    "floodmark.desk": ["Desk"],
}

METHODS = {
    ("floodmark.desk", "Desk"): {"__init__": "(self, system)", "ask": "(self, command)"},
}

FUNCTIONS = {
    "floodmark.vectors": {
        "primitive": "(vector)",
        "dot": "(first, second)",
        "combined": "(first, vector, second, other)",
        "echelon": "(rows)",
        "reduced": "(vector, rows)",
        "fraction": "(top, low)",
        "is_less": "(first, second)",
    },
    "floodmark.cone": {
        "dual": "(equations, conditions, size)",
    },
    "floodmark.poly": {
        "polyhedron": "(n, conditions, equations=())",
        "generators": "(region)",
        "spanned": "(n, points, rays=(), lines=())",
        "has_point": "(region, point)",
        "includes": "(region, other)",
        "meet": "(region, other)",
        "hull": "(region, other)",
        "image": "(region, rows)",
        "extended": "(region, directions)",
        "product": "(region, other)",
        "least_value": "(region, condition)",
    },
    "floodmark.system": {
        "check_system": "(system)",
        "invariant_of": "(system, location)",
        "directions_of": "(system, location)",
        "relation_of": "(system, jump)",
    },
    "floodmark.runs": {
        "is_state": "(system, state)",
        "leads_to": "(system, state, step)",
        "states_of": "(system, state, run)",
        "is_initial": "(system, state)",
    },
    "floodmark.successors": {
        "wait_forward": "(system, location, region)",
        "wait_backward": "(system, location, region)",
        "jump_forward": "(system, jump, region)",
        "jump_backward": "(system, jump, region)",
    },
    "floodmark.search": {
        "find_nodes": "(system, *, fuel)",
        "search": "(system, goals, *, fuel=10)",
    },
    "floodmark.multipliers": {
        "are_multipliers": "(conditions, target, multipliers)",
        "find_multipliers": "(conditions, target)",
    },
    "floodmark.certificate": {
        "conditions_of": "(region)",
        "start_premises": "(system, start)",
        "wait_premises": "(system, location, piece)",
        "jump_premises": "(system, jump, piece)",
        "goal_premises": "(system, goal, piece)",
        "is_certificate": "(system, goals, certificate)",
    },
    "floodmark.maker": {
        "make_certificate": "(system, goals, nodes)",
    },
    "floodmark.parameters": {
        "critical_values": "(system, goals, *, jumps)",
        "value_range": "(system, location, condition, *, jumps)",
    },
    "floodmark.joint": {
        "joint_system": "(first, second)",
    },
    "floodmark.books": {
        "write_book": "(certificate)",
        "read_book": "(numbers, *, n)",
    },
}


class InterfaceTest(unittest.TestCase):

    def test_functions_have_their_names_and_parameters(self):
        for module, functions in FUNCTIONS.items():
            for name, parameters in functions.items():
                with self.subTest(module=module, name=name):
                    function = getattr(importlib.import_module(module), name)
                    self.assertTrue(inspect.isfunction(function))
                    self.assertEqual(function.__module__, module)
                    self.assertEqual(str(inspect.signature(function)), parameters)

    def test_classes_have_their_names(self):
        for module, names in CLASSES.items():
            for name in names:
                with self.subTest(module=module, name=name):
                    found = getattr(importlib.import_module(module), name)
                    self.assertTrue(inspect.isclass(found))
                    self.assertEqual(found.__module__, module)

    def test_methods_stand_in_their_classes(self):
        for (module, name), methods in METHODS.items():
            for method, parameters in methods.items():
                with self.subTest(name=name, method=method):
                    found = vars(getattr(importlib.import_module(module), name))[method]
                    self.assertTrue(inspect.isfunction(found))
                    self.assertEqual(str(inspect.signature(found)), parameters)


if __name__ == "__main__":
    unittest.main()
