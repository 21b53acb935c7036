"""The interface: names, arguments, and the files in which they are defined."""

import importlib
import inspect
import unittest

FUNCTIONS = {
    "roads": {
        "number_of": ["road"], "road_of": ["fraction"], "compare": ["one", "other"],
        "course": ["ahead", "ring"], "compare_courses": ["one", "other"],
        "turns_of": ["told", "number"], "square_of": ["told"]},
    "maps": {
        "least_map": ["a", "b", "c", "d"], "size": ["one"], "sent": ["one", "fraction"],
        "behind": ["one", "other"], "turned": ["one"], "before": ["one", "fraction"],
        "machine_of": ["one"], "standings": ["one"], "course_sent": ["one", "told"], "fixed": ["one"]},
    "squares": {
        "roots_of": ["square"], "other_root": ["told"], "spread": ["told"], "rings": ["number"],
        "fixing": ["told", "most"]},
    "machines": {
        "run": ["machine", "road"], "run_course": ["machine", "told"], "joined": ["one", "other"],
        "least": ["machine"], "is_least": ["machine"], "cut_in": ["machine", "road", "other"]},
    "compare": {
        "alike": ["one", "other"], "first_unlike": ["one", "other"], "agree": ["one", "other"],
        "map_of": ["machine"], "falls": ["machine"], "same_written": ["machine"]},
    "waits": {
        "surely": ["machine", "road"], "wait": ["machine"], "ahead": ["machine"], "writes": ["machine", "word"],
        "never": ["machine", "length"], "number_of_roads": ["machine", "length", "word"],
        "rest_of_roads": ["machine", "length", "word", "modulus"],
        "number_below": ["machine", "length", "fraction"]},
    "sources": {
        "first_source": ["machine", "road"], "number_of_sources": ["machine", "road"],
        "course_source": ["machine", "told"], "misses": ["machine"], "undone": ["machine"]},
    "rates": {
        "rate": ["machine", "told"], "rates": ["machine"], "slowest": ["machine"], "fastest": ["machine"]},
    "guesses": {"fitting": ["seen", "most"], "told_back": ["seen"], "parting": ["maps"]},
    "tables": {"table_of": ["machine", "length"], "machine_from": ["words", "most"]},
    "books": {
        "book_of": ["machine"], "machine_of_book": ["book"], "sent_by": ["book", "fraction"], "least_book": ["book"],
        "book_behind": ["one", "other"], "wild": ["machine"]},
    "texts": {"show_map": ["one"], "show_machine": ["machine"], "show_course": ["told"]},
    "readings": {"read_map": ["text"], "read_machine": ["text"], "read_course": ["text"]},
}
METHODS = {
    "__init__": ["machine"], "__call__": ["turn"], "end": [], "written": [], "road": [], "between": [], "undo": [],
    "__len__": [], "__eq__": ["other"]}
ERRORS = [
    "RoadError", "InvalidRoad", "InvalidFraction", "InvalidMap", "InvalidMachine", "InvalidBook", "InvalidSquare",
    "InvalidNumber", "InvalidTurn", "HasEnded", "NothingToUndo", "Unreadable"]


class Interface(unittest.TestCase):

    def test_functions_stand_in_their_files_with_their_arguments(self):
        for name, functions in FUNCTIONS.items():
            module = importlib.import_module("leftroads." + name)
            for called, arguments in functions.items():
                with self.subTest(module=name, function=called):
                    function = getattr(module, called)
                    self.assertTrue(inspect.isfunction(function))
                    self.assertEqual(function.__module__, "leftroads." + name)
                    parameters = inspect.signature(function).parameters.values()
                    self.assertEqual([each.name for each in parameters], arguments)
                    for each in parameters:
                        self.assertIs(each.kind, inspect.Parameter.POSITIONAL_OR_KEYWORD)
                        self.assertIs(each.default, inspect.Parameter.empty)

    def test_readers_have_their_methods_in_their_own_class(self):
        reader = importlib.import_module("leftroads.readers").Reader
        self.assertEqual(reader.__module__, "leftroads.readers")
        for called, arguments in METHODS.items():
            method = vars(reader)[called]
            self.assertTrue(inspect.isfunction(method))
            self.assertEqual(list(inspect.signature(method).parameters)[1:], arguments)

    def test_errors_are_classes_of_their_file(self):
        module = importlib.import_module("leftroads.errors")
        for name in ERRORS:
            error = getattr(module, name)
            self.assertEqual(error.__module__, "leftroads.errors")
            self.assertEqual(error("x").value, "x")
            self.assertEqual(error(value=("x", [1])).value, ("x", [1]))


if __name__ == "__main__":
    unittest.main()
