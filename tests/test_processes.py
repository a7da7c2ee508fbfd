"""Point [21]: the fields and the equality of processes and calls. What calls do is told by endings."""

import itertools
import unittest

from namewalk.errors import NoOwner
from namewalk.paths import read_path
from namewalk.processes import Done, Find, Made, Make, Process, Remove, Shift
from namewalk.walking import Came, Look
from tests.samples import INTERFACE_OBJECTS, NO_OWNERS

A, B = read_path("a"), read_path("/b/")
PLAIN = Look(False, False, None)


class FieldsTest(unittest.TestCase):
    def test_by_position(self):
        self.assertEqual(vars(Find(A)), {"path": A})
        self.assertEqual(vars(Make("file", A)), {"kind": "file", "path": A})
        self.assertEqual(vars(Remove(B)), {"path": B})
        self.assertEqual(vars(Shift(A, B)), {"path": A, "other": B})
        self.assertEqual(vars(Process(3, PLAIN, 4, [Find(A)])),
                         {"place": 3, "look": PLAIN, "owner": 4, "calls": (Find(A),)})
        self.assertEqual(vars(Done()), {})
        self.assertEqual(vars(Made(1, 2)), {"process": 1, "call": 2})

    def test_by_name(self):
        self.assertEqual(Find(path=A), Find(A))
        self.assertEqual(Make(path=A, kind="folder"), Make("folder", A))
        self.assertEqual(Remove(path=A), Remove(A))
        self.assertEqual(Shift(other=B, path=A), Shift(A, B))
        self.assertEqual(Process(calls=[], owner=1, look=PLAIN, place=0), Process(0, PLAIN, 1, ()))
        self.assertEqual(Made(call=2, process=1), Made(1, 2))

    def test_sequences_are_kept_as_tuples(self):
        calls = [Find(A), Remove(B)]
        process = Process(0, PLAIN, 0, calls)
        calls.append(Find(B))
        self.assertEqual(process.calls, (Find(A), Remove(B)))
        self.assertIsInstance(process.calls, tuple)
        self.assertEqual(Process(0, PLAIN, 0, tuple(calls)).calls, (Find(A), Remove(B), Find(B)))
        steps = ["a", "b"]
        path = read_path("a/b").__class__(steps, False, False)
        call = Find(path)
        steps.clear()
        self.assertEqual(call.path.steps, ("a", "b"))


class EqualityTest(unittest.TestCase):
    def test_every_class_and_every_field(self):
        ones = [
            Find(A), Find(B), Make("file", A), Make("folder", A), Make("file", B), Remove(A), Remove(B), Shift(A, B),
            Shift(B, A), Shift(A, A), Process(0, PLAIN, 0, []), Process(1, PLAIN, 0, []),
            Process(0, Look(True, False, None), 0, []), Process(0, PLAIN, 1, []), Process(0, PLAIN, 0, [Find(A)]),
            Process(0, PLAIN, 0, [Find(A), Find(B)]), Process(0, PLAIN, 0, [Find(B), Find(A)]), Done(), Made(0, 0),
            Made(0, 1), Made(1, 0),
        ]
        for (i, one), (j, other) in itertools.product(enumerate(ones), repeat=2):
            self.assertIs(one == other, i == j)
            self.assertIs(one != other, i != j)
            self.assertIs((one,) == (other,), i == j)

    def test_equal_objects_that_are_not_the_same(self):
        def make():
            return [Find(read_path("a")), Make("file", read_path("a")), Remove(read_path("a")),
                    Shift(read_path("a"), read_path("b")), Process(0, Look(True, True, [0]), 0, [Find(read_path("a"))]),
                    Done(), Made(0, 1)]
        for one, other in zip(make(), make()):
            self.assertIs(one == other, True)
            self.assertIs(one != other, False)
        self.assertEqual(Process(0, Look(True, True, (0,)), 0, (Find(A),)),
                         Process(0, Look(True, True, [0]), 0, [Find(A)]))

    def test_other_classes(self):
        ones = [Find(A), Make("file", A), Remove(A), Shift(A, B), Process(0, PLAIN, 0, []), Done(), Made(0, 1)]
        for one in ones:
            for other in INTERFACE_OBJECTS + [None, A, "a", (A,), (), (0, 1), 0, object(), Came(1)]:
                if other.__class__ != one.__class__:
                    self.assertIs(one == other, False)
                    self.assertIs(other == one, False)
                    self.assertIs(one != other, True)


class OwnerTest(unittest.TestCase):
    def test_no_owner(self):
        for owner in NO_OWNERS:
            for calls in ([], [Find(A)]):
                with self.assertRaises(NoOwner) as caught:
                    Process(0, PLAIN, owner, calls)
                self.assertIs(caught.exception.owner, owner)

    def test_owners(self):
        for owner in (0, 1, 10 ** 30):
            self.assertEqual(Process(0, PLAIN, owner, []).owner, owner)

    def test_a_place_is_not_looked_at_yet(self):
        for place in (-1, None, "a", 99):
            self.assertIs(Process(place, PLAIN, 0, []).place, place)


if __name__ == "__main__":
    unittest.main()
