"""The classes of errors that the interface lists."""

import unittest

from threeroad import errors

KINDS = ("NoPath", "NoFile", "InTheWay", "NoClash", "Clashed", "NoVersion", "SameVersion")


class TestErrors(unittest.TestCase):
    def kinds(self):
        return [getattr(errors, name) for name in KINDS]

    def test_road_error_is_a_value_error(self):
        self.assertEqual(errors.RoadError.__bases__, (ValueError,))
        with self.assertRaises(ValueError):
            raise errors.RoadError("refused")

    def test_each_kind_stands_directly_under_road_error(self):
        for kind in self.kinds():
            with self.subTest(kind=kind.__name__):
                self.assertEqual(kind.__bases__, (errors.RoadError,))

    def test_each_kind_is_taken_as_road_error_and_as_value_error(self):
        for kind in self.kinds():
            for taken in (kind, errors.RoadError, ValueError):
                with self.subTest(kind=kind.__name__, taken=taken.__name__):
                    with self.assertRaises(taken):
                        raise kind("refused")

    def test_no_kind_is_taken_as_another_one(self):
        for kind in self.kinds():
            for other in self.kinds():
                if other is not kind:
                    with self.subTest(kind=kind.__name__, other=other.__name__):
                        self.assertNotIsInstance(kind("refused"), other)

    def test_road_error_is_taken_as_none_of_the_kinds(self):
        for kind in self.kinds():
            with self.subTest(kind=kind.__name__):
                self.assertNotIsInstance(errors.RoadError("refused"), kind)

    def test_errors_keep_their_names_and_words(self):
        for name in ("RoadError",) + KINDS:
            with self.subTest(name=name):
                kind = getattr(errors, name)
                self.assertEqual(kind.__name__, name)
                self.assertEqual(kind.__module__, "threeroad.errors")
                self.assertEqual(str(kind("some words")), "some words")


if __name__ == "__main__":
    unittest.main()
