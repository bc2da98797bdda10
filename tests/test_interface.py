"""The interface: each name in its file, with its arguments, and the errors with their values."""

import ast
import importlib
import inspect
import pathlib
import unittest

from escaperow.errors import BadBody, BadSigns, BadText, BadWay, OtherTop, RowError

FUNCTIONS = {
    "escaperow.ways": {"need_way": ["way"]},
    "escaperow.frames": {"framed": ["way", "body"], "body_of": ["way", "signs"]},
    "escaperow.streams": {"read": ["way", "signs"]},
    "escaperow.rooms": {"worst": ["way", "many"], "frames_of": ["way", "size"], "least_room": ["top", "many"]},
    "escaperow.parting": {"parted": ["way", "other"]},
    "escaperow.notes": {"written": ["way"], "read_way": ["text"]},
}
METHODS = {
    "Reader": {"__init__": ["self", "way"], "put": ["self", "signs"], "rest": ["self"]},
    "Writer": {"__init__": ["self", "way"], "put": ["self", "sign"], "close": ["self"]},
}
PACKAGE = pathlib.Path(inspect.getfile(RowError)).parent
ERRORS = (RowError, BadWay, BadBody, BadSigns, OtherTop, BadText)


class Functions(unittest.TestCase):

    def test_each_is_defined_in_its_file_with_its_arguments(self):
        for place, functions in FUNCTIONS.items():
            module = importlib.import_module(place)
            for name, arguments in functions.items():
                with self.subTest(place=place, name=name):
                    function = getattr(module, name)
                    self.assertTrue(inspect.isfunction(function))
                    self.assertEqual(function.__module__, place)
                    self.assertEqual(list(inspect.signature(function).parameters), arguments)

    def test_arguments_may_be_named(self):
        framing = importlib.import_module("escaperow.frames")
        way = ("counts", 4, 0, 3)
        self.assertIsNone(importlib.import_module("escaperow.ways").need_way(way=way))
        self.assertEqual(framing.framed(way=way, body=[1]), [2, 1, 0])
        self.assertEqual(framing.body_of(way=way, signs=[2, 1, 0]), [1])
        rooms = importlib.import_module("escaperow.rooms")
        self.assertEqual(rooms.worst(way=way, many=0), (2, []))
        self.assertEqual(rooms.frames_of(way=way, size=2), 1)
        self.assertEqual(rooms.least_room(top=4, many=0), 1)
        self.assertIsNone(importlib.import_module("escaperow.parting").parted(way=way, other=way))
        notes = importlib.import_module("escaperow.notes")
        self.assertEqual(notes.read_way(text=notes.written(way=way)), way)

    def test_arguments_of_readers_and_writers_may_be_named(self):
        streams = importlib.import_module("escaperow.streams")
        way = ("counts", 4, 0, 3)
        self.assertEqual(streams.read(way=way, signs=[2, 1, 0, 3]), ([[1]], [3]))
        self.assertEqual(streams.Reader(way=way).put(signs=[2, 1, 0]), [[1]])
        self.assertEqual(streams.Writer(way=way).put(sign=0), [1])


class Classes(unittest.TestCase):

    def test_each_is_defined_in_streams_with_its_methods_in_itself(self):
        streams = importlib.import_module("escaperow.streams")
        for name, methods in METHODS.items():
            defined = getattr(streams, name)
            self.assertTrue(inspect.isclass(defined))
            self.assertEqual(defined.__module__, "escaperow.streams")
            for method, arguments in methods.items():
                with self.subTest(name=name, method=method):
                    self.assertIn(method, vars(defined))
                    self.assertEqual(list(inspect.signature(vars(defined)[method]).parameters), arguments)


class Package(unittest.TestCase):

    def test_it_reaches_no_clock_no_chance_and_no_files(self):
        for file in sorted(PACKAGE.rglob("*.py")):
            for node in ast.walk(ast.parse(file.read_text(encoding="utf-8"))):
                with self.subTest(file=file.name, line=getattr(node, "lineno", 0)):
                    self.assertNotIsInstance(node, ast.Import)
                    if isinstance(node, ast.ImportFrom):
                        self.assertEqual((node.level, node.module.split(".")[0]), (0, "escaperow"))
                    if isinstance(node, ast.Name):
                        self.assertNotIn(node.id, ("open", "input", "id", "hash", "print"))


class Errors(unittest.TestCase):

    def test_each_is_a_refusal_of_its_own(self):
        self.assertEqual(RowError.__bases__, (ValueError,))
        for error in ERRORS[1:]:
            with self.subTest(error=error.__name__):
                self.assertEqual(error.__bases__, (RowError,))

    def test_each_is_defined_in_errors(self):
        for error in ERRORS:
            with self.subTest(error=error.__name__):
                self.assertEqual(error.__module__, "escaperow.errors")

    def test_values_are_set_when_made(self):
        self.assertEqual(BadWay("limit").why, "limit")
        self.assertEqual(BadBody(7).at, 7)
        self.assertEqual(BadSigns(0).at, 0)

    def test_those_without_values_can_be_raised(self):
        for error in (RowError, OtherTop, BadText):
            with self.subTest(error=error.__name__):
                with self.assertRaises(error):
                    raise error("why")


if __name__ == "__main__":
    unittest.main()
