"""The head of the interface: what is where, and the general rules (point 2) for every function at once."""

import ast
import copy
import doctest
import importlib
import inspect
import random
import unittest

from kindsunder import errors
from tests import oracle, oracle_bounds, samples
from tests.base import Case

FUNCTIONS = {
    "tables": {"is_table": "value", "is_type": "table value", "depth": "table shape", "text": "table shape",
               "put_in": "table shape arguments"},
    "places": {"product": "first second", "allows": "sign other", "parts": "table shape",
               "sign_at": "table shape place"},
    "sound": {"order": "table", "ring": "table", "obstacles": "table class_number parameter sign", "clash": "table",
              "double_name": "table", "fault": "table"},
    "above": {"classes_above": "table class_number", "way": "table class_number other",
              "above": "table shape class_number"},
    "under": {"needs": "table s t", "is_derivation": "table s t value", "is_refusal": "table s t value"},
    "growth": {"steps": "table", "growing_ring": "table", "levels": "table", "road": "table number"},
    "closures": {"moves": "table shape", "closure": "table types"},
    "deciding": {"is_under": "table s t", "derivation": "table s t", "refusal": "table s t",
                 "joined": "table first second"},
    "heights": {"height": "table s t", "are_alike": "table s t", "lowest": "table types"},
    "fitting": {"fitting": "table class_number shape"},
    "signs": {"uses": "table", "best_signs": "table", "with_best": "table",
              "reason": "table class_number parameter way_sign"},
    "offers": {"offers": "table shape"},
    "programs": {"is_program": "table value", "misfit": "table program", "run": "table program number"},
    "checker": {"check": "certificate"},
    "bounds": {"are_bounds": "table value", "keeps": "table bounds closed"},
    "splits": {"split": "table bounds class_number", "bar": "table bounds class_number",
               "is_bar": "table bounds class_number value", "family": "table bounds"},
    "keepers": {"keeper": "table bounds", "floors_of": "table bounds", "are_floors": "table bounds value"},
    "counts": {"count": "table bounds number", "total": "table bounds", "pump": "table bounds",
               "is_pump": "table bounds value", "deep_keeper": "table bounds number"},
    "ranks": {"keeper_at": "table bounds number place", "place_of": "table bounds number closed"},
    "extremes": {"covers": "table bounds other", "outside": "table bounds other", "are_covers": "table bounds other value",
                 "bottom_of": "table bounds", "top_of": "table bounds", "needless": "table bounds", "lean": "table bounds"},
    "calls": {"is_call": "table value", "opened": "table call", "call_bar": "table call", "first_choice": "table call",
              "fits": "table call choice", "best_choice": "table call"},
    "bridges": {"is_half": "table value", "is_crossing": "table value", "needed_crossings": "table crossing",
                "bridge": "table first second", "gap": "table first second", "is_gap": "table first second value",
                "is_nested": "table value", "nested": "table call", "nested_halves": "table call"},
    "records": {"judge": "record"},
}
BOUNDED = [name for module in ("bounds", "splits", "keepers", "counts", "ranks", "extremes", "calls", "bridges")
           for name in FUNCTIONS[module]]
SOUND = ("above", "needs", "is_derivation", "is_refusal", "is_under", "derivation", "refusal", "joined", "height", "are_alike",
         "lowest", "fitting", "offers", "misfit", "run") + tuple(BOUNDED)
TAME = ("closure", "is_under", "derivation", "refusal", "height", "are_alike", "lowest", "fitting", "misfit",
        "run") + tuple(BOUNDED)


def functions():
    for module, names in FUNCTIONS.items():
        for name, words in names.items():
            yield name, getattr(importlib.import_module("kindsunder." + module), name), words.split()


def bounded_values(table, shape):
    """Values for the arguments of the functions of stages 16 to 23, about closed types of the table."""
    some = oracle_bounds.closed_types(table, 2)
    low, high = (some[0], some[-1]) if some else ((0,), (0,))
    half = ("b", (((low,), ()),))
    signature = (1, ("a", "a"), "a")
    return {"bounds": ((low,), ()), "other": ((), (high,)), "closed": low, "place": 0, "choice": (high,), "first": half,
            "second": ((high, ()) if len(high) < 3 else half), "crossing": (half, half, "under"), "number": oracle.size(shape) % 7,
            "call": random.Random(oracle.size(shape)).choice((
                (signature, (low, high), None), (signature, (low, low), high), (signature, (low, high), signature, 0, (high,), None)))}


def outcome(function, arguments):
    """What a call returns, or the name of its error with the fault that it keeps."""
    try:
        return function(*copy.deepcopy(arguments))
    except errors.KindError as error:
        return type(error).__name__, getattr(error, "fault", None)


class Interface(Case):
    def test_every_example(self):
        failed, looked = doctest.testfile("examples.txt")
        self.assertEqual((failed, looked > 150), (0, True))

    def test_each_function_is_defined_in_its_file(self):
        for module, names in FUNCTIONS.items():
            for name in names:
                function = getattr(importlib.import_module("kindsunder." + module), name)
                self.assertTrue(inspect.isfunction(function), name)
                self.assertEqual((function.__module__, function.__name__), ("kindsunder." + module, name))

    def test_each_function_takes_its_arguments_by_position(self):
        for name, function, words in functions():
            inspect.signature(function).bind(*words)
            self.assertRaises(TypeError, inspect.signature(function).bind, *words[1:])

    def test_tables_come_first(self):
        """InvalidTable, then Unsound, then NotTame stand ahead of all other errors, and only where they are named."""
        for name, function, words in functions():
            if words[0] != "table":
                continue
            wrong = [None for _ in words[1:]]
            for value in samples.ODD:
                if value != ():
                    self.fails(errors.InvalidTable, function, value, *wrong)
            for table in (samples.RING, samples.OBSTACLE, samples.CLASH, samples.NAME, samples.OBSTACLE_WILD, samples.WILD):
                tells = None
                try:
                    function(table, *wrong)
                except errors.KindError as error:
                    tells = error
                if name in SOUND and not oracle.sound(table):
                    self.assertIs(type(tells), errors.Unsound, name)
                    self.assertTrue(oracle.fault_ok(table, tells.fault))
                elif name in TAME and not oracle.tame(table):
                    self.assertIs(type(tells), errors.NotTame, name)
                else:
                    self.assertNotIn(type(tells), (errors.InvalidTable, errors.Unsound, errors.NotTame), name)

    def test_lists_are_not_modified_by_calls_that_fail(self):
        for name, function, words in functions():
            for start in (samples.EXAMPLE, samples.RING, [samples.EXAMPLE]):
                given = [start] + [[["x"], ("x", [0])] for _ in words[1:]]
                before = copy.deepcopy(given)
                try:
                    function(*given)
                except errors.KindError:
                    pass
                self.same(given, before, name)

    def test_the_same_after_other_calls(self):
        """The calls of all functions for several tables, once in their order and once in another one."""
        values = {"value": [("x", "x", ())], "shape": "x", "arguments": ("x",), "place": (), "class_number": 0, "other": 0,
                  "parameter": 0, "sign": "*", "s": "x", "t": "x", "number": 4, "types": ("x",),
                  "first": [("x", "x", ())], "second": [("x", "x", ())], "way_sign": "+", "bounds": ((), ()), "closed": (0,),
                  "program": (((0,),), (("new", 0, (0,), ()),))}
        calls = []
        for table in samples.TABLES[::5]:
            shapes = samples.types_of(table, 6, 32)
            for name, function, words in functions():
                if words[0] == "table":
                    for shape in shapes[-3:]:
                        own = {"shape": shape, "s": shape, "t": shape, "types": (shape, "x"), "arguments": (shape,)}
                        if name in BOUNDED:
                            own = bounded_values(table, shape)
                        calls.append((function, [table] + [own.get(word, values.get(word)) for word in words[1:]]))
        before = [outcome(*call) for call in calls]
        places = list(range(len(calls)))
        random.Random(33).shuffle(places)
        for at in places:
            self.same(outcome(*calls[at]), before[at], calls[at])

    def test_equal_tables_that_are_different_objects(self):
        for table in samples.TABLES[::4]:
            other = ast.literal_eval(repr(table))
            for name, function, words in functions():
                if words == ["table"] and (oracle.in_order(table) or name not in ("clash", "double_name")):
                    self.same(function(table), function(other), name)


if __name__ == "__main__":
    unittest.main()
