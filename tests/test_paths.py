"""Point [6]: paths, their texts, BadText and NoPath."""

import itertools
import unittest

from namewalk.errors import BadText, NoPath
from namewalk.paths import Path, path_text, read_path
from tests.samples import BAD_NAMES, GOOD_NAMES, INTERFACE_OBJECTS, NO_STRINGS


def read(text):
    path = read_path(text)
    return path.steps, path.absolute, path.folder


class ReadPathTest(unittest.TestCase):
    def test_steps_absolute_and_folder(self):
        for text, steps, absolute, folder in (
            ("a", ("a",), False, False),
            ("a/b", ("a", "b"), False, False),
            ("/a", ("a",), True, False),
            ("a/", ("a",), False, True),
            ("/a/", ("a",), True, True),
            ("a//./b/", ("a", "b"), False, True),
            ("//a", ("a",), True, False),
            ("///a///b///", ("a", "b"), True, True),
            ("./a", ("a",), False, False),
            ("a/.", ("a",), False, True),
            ("a/./", ("a",), False, True),
            ("a/..", ("a", ".."), False, True),
            ("a/../", ("a", ".."), False, True),
            ("a/../.", ("a", ".."), False, True),
            ("../a", ("..", "a"), False, False),
            ("..", ("..",), False, True),
            ("../..", ("..", ".."), False, True),
            ("/..", ("..",), True, True),
            (".", (), False, True),
            ("./", (), False, True),
            ("./.", (), False, True),
            ("/", (), True, True),
            ("//", (), True, True),
            ("/.", (), True, True),
            ("/./", (), True, True),
            ("...", ("...",), False, False),
            ("/.../..", ("...", ".."), True, True),
            ("..a/.b", ("..a", ".b"), False, False),
            ("abcdefghijkl", ("abcdefghijkl",), False, False),
        ):
            with self.subTest(text):
                found = read(text)
                self.assertEqual(found, (steps, absolute, folder))
                self.assertIsInstance(found[0], tuple)
                self.assertIs(found[1], absolute)
                self.assertIs(found[2], folder)

    def test_every_good_name_is_a_step(self):
        for name in GOOD_NAMES:
            self.assertEqual(read(name), ((name,), False, False))
            self.assertEqual(read("/x/" + name + "/"), (("x", name), True, True))

    def test_bad_names_are_told_with_their_place(self):
        for name in BAD_NAMES:
            # These are no single component, or one that is left out, or a step.
            if name in ("", ".", "..") or "/" in name:
                continue
            for before, after in itertools.product(("", "/", "a/", "//", "./", "../b//"), ("", "/", "/b", "/B", "/.")):
                with self.subTest(before + name + after):
                    with self.assertRaises(BadText) as caught:
                        read_path(before + name + after)
                    self.assertEqual(caught.exception.place, len(before))

    def test_place_of_the_first_bad_component(self):
        for text, place in (
            ("a/B", 2), ("B", 0), ("/B", 1), ("a/bC/D", 2), ("a//B", 3), ("a/./B", 4), ("../B", 3),
            ("abcdefghijkl/abcdefghijklm", 13), ("abcdefghijklm/B", 0), ("a b", 0), (" ", 0), ("a/ /b", 2),
            ("a/b /c", 2), ("/./..//x/Y/z/W", 9),
        ):
            with self.subTest(text):
                with self.assertRaises(BadText) as caught:
                    read_path(text)
                self.assertEqual(caught.exception.place, place)

    def test_place_in_long_texts(self):
        for before in ("a/" * 500, "/" * 5000, "abcdefghijkl/" * 40, "../" * 1000, "./" * 20000):
            with self.assertRaises(BadText) as caught:
                read_path(before + "X" * 300)
            self.assertEqual(caught.exception.place, len(before))
        self.assertEqual(read("/" * 5000 + "a"), (("a",), True, False))

    def test_empty_text(self):
        with self.assertRaises(BadText) as caught:
            read_path("")
        self.assertEqual(caught.exception.place, 0)

    def test_what_is_no_string(self):
        for value in NO_STRINGS:
            with self.subTest(repr(value)):
                with self.assertRaises(BadText) as caught:
                    read_path(value)
                self.assertEqual(caught.exception.place, 0)
        with self.assertRaises(BadText):
            read_path(read_path("a"))


class PathTest(unittest.TestCase):
    def test_steps_as_list_and_as_tuple(self):
        for steps in (["a", "..", "b"], ("a", "..", "b")):
            path = Path(steps, True, False)
            self.assertEqual((path.steps, path.absolute, path.folder), (("a", "..", "b"), True, False))
            self.assertIsInstance(path.steps, tuple)

    def test_later_changes_of_the_list_have_no_effect(self):
        steps = ["a"]
        path = Path(steps, False, False)
        steps.append("b")
        self.assertEqual(path.steps, ("a",))
        self.assertEqual(steps, ["a", "b"])

    def test_all_good_names_are_steps(self):
        for name in GOOD_NAMES:
            self.assertEqual(Path([name], False, False).steps, (name,))

    def test_refuses_what_is_no_step(self):
        for value in BAD_NAMES + NO_STRINGS:
            if value == "..":
                continue
            for steps in ([value], ["a", value], [value, "a"], ["a", "..", value, "b"]):
                with self.subTest(repr(steps)):
                    with self.assertRaises(NoPath):
                        Path(steps, False, True)

    def test_refuses_what_no_text_is_read_as(self):
        for steps in ((), ("..",), ("a", ".."), ("..", "..")):
            for absolute in (False, True):
                with self.assertRaises(NoPath):
                    Path(steps, absolute, False)
                self.assertEqual(Path(steps, absolute, True).steps, steps)

    def test_errors_have_no_field(self):
        with self.assertRaises(NoPath) as caught:
            Path((), False, False)
        self.assertEqual(vars(caught.exception), {})

    def test_equality(self):
        path = Path(["a", "b"], False, False)
        self.assertTrue(path == Path(("a", "b"), False, False))
        self.assertFalse(path != Path(("a", "b"), False, False))
        self.assertEqual(path, read_path("./a//b"))
        for other in (Path(("a",), False, False), Path(("a", "b"), True, False), Path(("a", "b"), False, True),
                      Path(("b", "a"), False, False)):
            self.assertFalse(path == other)
            self.assertTrue(path != other)

    def test_is_never_equal_to_objects_of_other_classes(self):
        path = Path(("a",), False, False)
        others = [one for one in INTERFACE_OBJECTS if not isinstance(one, Path)]
        for other in others + [None, "a", ("a",), (("a",), False, False), ["a"], 0, False]:
            self.assertIs(path == other, False)
            self.assertIs(other == path, False)


class PathTextTest(unittest.TestCase):
    def test_texts(self):
        for text, shortest in (
            ("a", "a"), ("a/", "a/"), ("a/.", "a/"), ("./a", "a"), ("//a//b//", "/a/b/"), (".", "."), ("./", "."),
            ("/", "/"), ("/./", "/"), ("..", ".."), ("../", ".."), ("a/../", "a/.."), ("/a/./../", "/a/.."),
            ("/../a", "/../a"), ("...", "..."), (".../", ".../"),
        ):
            with self.subTest(text):
                self.assertEqual(path_text(read_path(text)), shortest)

    def test_steps_given_as_a_list(self):
        self.assertEqual(path_text(Path(["a", "b"], True, True)), "/a/b/")

    def test_shortest_of_all_texts_and_refused_without_one(self):
        """Compared with all texts of up to nine characters of these."""
        shortest = {}
        for length in range(1, 10):
            for letters in itertools.product("a./", repeat=length):
                text = "".join(letters)
                shortest.setdefault(read(text), text)
        for text in shortest.values():
            path = read_path(text)
            self.assertEqual(len(path_text(path)), len(text))
            self.assertEqual(read_path(path_text(path)), path)
        for length, absolute, folder in itertools.product(range(3), (False, True), (False, True)):
            for steps in itertools.product(("a", "..", "..."), repeat=length):
                if (steps, absolute, folder) in shortest:
                    self.assertEqual(read(path_text(Path(steps, absolute, folder))), (steps, absolute, folder))
                else:
                    with self.assertRaises(NoPath):
                        Path(steps, absolute, folder)


if __name__ == "__main__":
    unittest.main()
