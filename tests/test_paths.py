"""Points 2 and 3 of the document: paths, and what lies above and beneath them."""

import string
import unittest

from threeroad.paths import above, is_beneath, is_path

GOOD_SIGNS = string.ascii_letters + string.digits + ".-_"
PRINTED = [chr(code) for code in range(32, 127)]
BAD_SIGNS = [sign for sign in PRINTED if sign not in GOOD_SIGNS and sign != "/"] + ["\t", "\n"]
# Signs that Python's own isalnum(), isdigit() or strip() would treat as good or as nothing.
FAR_SIGNS = ["\x00", "\x0b", "\r", "\x7f", "\xa0", "\u00e9", "\u00df", "\u0663", "\u00b2", "\uff41", "\u2028", "\ud800"]


def placed(sign, parts=("ab", "cd", "ef")):
    """Texts of three parts with a sign at the beginning, middle and end of each part."""
    texts = []
    for at, part in enumerate(parts):
        for grown in (sign + part, part[0] + sign + part[1:], part + sign):
            texts.append("/".join(parts[:at] + (grown,) + parts[at + 1:]))
    return texts


class TestIsPath(unittest.TestCase):
    def assert_paths(self, texts):
        for text in texts:
            with self.subTest(text=text):
                self.assertIs(is_path(text), True)

    def assert_no_paths(self, texts):
        for text in texts:
            with self.subTest(text=text):
                self.assertIs(is_path(text), False)

    def test_the_examples_of_the_document(self):
        self.assert_paths(["a/b.c/D-2"])
        self.assert_no_paths(["", "/a", "a/", "a//b"])

    def test_one_to_eight_parts(self):
        self.assert_paths(["/".join(["a"] * many) for many in range(1, 9)])
        self.assert_paths(["/".join("abcdefgh"), "/".join(["twelve-signs"] * 8)])

    def test_more_than_eight_parts(self):
        self.assert_no_paths(["/".join(["a"] * many) for many in (9, 10, 16, 17, 100)])
        self.assert_no_paths(["/".join("abcdefghi"), "/".join(["twelve-signs"] * 9)])

    def test_one_to_twelve_signs(self):
        for many in range(1, 13):
            self.assert_paths(["a" * many, "x/" + "a" * many, "a" * many + "/x", "x/" + "a" * many + "/y"])

    def test_more_than_twelve_signs(self):
        for many in (13, 14, 24, 25, 1000):
            self.assert_no_paths(["a" * many, "x/" + "a" * many, "a" * many + "/x", "x/" + "a" * many + "/y"])

    def test_length_counts_in_each_place(self):
        for at in range(8):
            for many, told in ((1, True), (12, True), (13, False)):
                parts = ["ab"] * 8
                parts[at] = "Z" * many
                with self.subTest(at=at, many=many):
                    self.assertIs(is_path("/".join(parts)), told)

    def test_signs_that_a_part_may_have(self):
        for sign in GOOD_SIGNS:
            self.assert_paths(placed(sign))
            if sign != ".":
                self.assert_paths([sign, "a/" + sign, sign + "/a", sign * 12])

    def test_signs_that_a_part_may_not_have(self):
        for sign in BAD_SIGNS + FAR_SIGNS:
            self.assert_no_paths(placed(sign))
            self.assert_no_paths([sign, sign + "a", "a" + sign, "a" + sign + "b", sign + "/a", "a/" + sign])

    def test_the_slash_parts(self):
        self.assert_paths(["a/b"])
        self.assert_no_paths(["/", "//", "///", "/a", "a/", "//a", "a//", "/a/", "a//b", "a/b/", "/a/b", "a/b//c"])

    def test_empty_parts_do_not_make_room(self):
        self.assert_no_paths(["a/b/c/d/e/f/g/h/", "/a/b/c/d/e/f/g/h", "a/b/c/d//e/f/g/h", "/" * 7, "/" * 8])

    def test_one_and_two_dots_are_no_parts(self):
        for dots in (".", ".."):
            self.assert_no_paths([dots, "a/" + dots, dots + "/a", "a/" + dots + "/b", dots + "/" + dots])
            for at in range(8):
                parts = ["a"] * 8
                parts[at] = dots
                self.assert_no_paths(["/".join(parts)])

    def test_parts_that_only_look_like_dots(self):
        for part in ("...", "....", "." * 12, ".a", "..a", "a.", "a..", "a.b", "a..b", ".-", "-.", "._", "-", "_", "--"):
            self.assert_paths([part, "a/" + part, part + "/a", "a/" + part + "/b"])
        self.assert_no_paths(["." * 13])


class TestAbove(unittest.TestCase):
    def test_the_example_of_the_document(self):
        self.assertEqual(above("a/b/c"), ["a", "a/b"])

    def test_one_to_eight_parts(self):
        parts = ["one", "t.wo", "thr-ee", "fo_ur", "5", "S", "...", "eight"]
        wanted = ["one", "one/t.wo", "one/t.wo/thr-ee", "one/t.wo/thr-ee/fo_ur", "one/t.wo/thr-ee/fo_ur/5",
                  "one/t.wo/thr-ee/fo_ur/5/S", "one/t.wo/thr-ee/fo_ur/5/S/..."]
        for many in range(1, 9):
            with self.subTest(many=many):
                folders = above("/".join(parts[:many]))
                self.assertIsInstance(folders, list)
                self.assertEqual(folders, wanted[:many - 1])

    def test_parts_that_are_alike(self):
        self.assertEqual(above("a/a/a/a"), ["a", "a/a", "a/a/a"])

    def test_each_folder_is_a_path(self):
        for folder in above("/".join(["twelve-signs"] * 8)):
            self.assertIs(is_path(folder), True)

    def test_a_list_is_the_askers_own(self):
        for path, wanted in (("a", []), ("a/b", ["a"]), ("a/b/c", ["a", "a/b"])):
            with self.subTest(path=path):
                first = above(path)
                kept = above(path)
                first.append("more")
                first[0] = "other"
                self.assertEqual(kept, wanted)
                self.assertEqual(above(path), wanted)
                first.clear()
                self.assertEqual(above(path), wanted)
                self.assertIsNot(above(path), kept)


class TestIsBeneath(unittest.TestCase):
    def assert_beneath(self, path, upper):
        with self.subTest(path=path, upper=upper):
            self.assertIs(is_beneath(path, upper), True)
            self.assertIs(is_beneath(upper, path), False)

    def assert_apart(self, path, other):
        with self.subTest(path=path, other=other):
            self.assertIs(is_beneath(path, other), False)
            self.assertIs(is_beneath(other, path), False)

    def test_a_path_and_each_of_its_folders(self):
        for path in ("a/b", "a/b/c", "a/b.c/D-2", "a/a/a/a", "a/b/c/d/e/f/g/h", "/".join(["twelve-signs"] * 8)):
            parts = path.split("/")
            for many in range(1, len(parts)):
                self.assert_beneath(path, "/".join(parts[:many]))

    def test_a_path_and_itself(self):
        for path in ("a", "a/b", "a/a", "a/b/c/d/e/f/g/h"):
            self.assert_apart(path, path)

    def test_beginnings_as_texts_but_not_as_parts(self):
        for path, other in (("a/b", "a/bc"), ("a", "ab"), ("a", "ab/c"), ("a/b", "a/b.c"), ("a/b", "a/bc/d"),
                            ("a", "a.b"), ("a", "a-/b"), ("a", "a_"), ("a", "aa/a")):
            self.assert_apart(path, other)

    def test_ends_and_middles_are_not_above(self):
        for path, other in (("a/b", "b"), ("a/b/c", "b/c"), ("a/b/c", "b"), ("a/b/c", "a/c")):
            self.assert_apart(path, other)

    def test_letters_great_and_small_differ(self):
        self.assert_apart("A/b", "a")
        self.assert_apart("a/b/c", "a/B")

    def test_paths_that_part(self):
        for path, other in (("a/b/c", "x/b/c"), ("a/b/c", "a/x/c"), ("a/b/c", "a/b/x"), ("a", "b"),
                            ("a/b/c/d", "x/b"), ("a/b/c/d", "a/x"), ("a/b/c/d", "a/b/x")):
            self.assert_apart(path, other)

    def test_it_agrees_with_above(self):
        paths = ["a", "b", "a/a", "a/b", "a/bc", "ab", "ab/c", "a/b/c", "a/b/c/d", "a/b.c", "b/a", "b/a/b"]
        for path in paths:
            for upper in paths:
                with self.subTest(path=path, upper=upper):
                    self.assertIs(is_beneath(path, upper), upper in above(path))


if __name__ == "__main__":
    unittest.main()
