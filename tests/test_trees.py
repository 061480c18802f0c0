"""Points 4 to 7 of the document: trees, deeds, rows of deeds, and what lies between two trees."""

import itertools
import unittest

from roadcase import NO_PATHS, RoadCase, all_trees, beneath_one_another, many_files

from threeroad.errors import InTheWay, NoFile, NoPath
from threeroad.trees import between, changed, done, is_tree

DEEP = "a/b/c/d/e/f/g/h"


def put_at(files, key, place):
    """The same files with one more at a place among them."""
    rows = list(files.items())
    return dict(rows[:place] + [(key, "text")] + rows[place:])


class TestIsTree(RoadCase):
    def assert_told(self, told, files):
        with self.subTest(files=files):
            before = repr(files)
            self.assertIs(is_tree(files), told)
            self.assertEqual(repr(files), before)

    def test_the_empty_dict(self):
        self.assert_told(True, {})

    def test_paths_of_one_to_eight_parts(self):
        for many in range(1, 9):
            self.assert_told(True, {"/".join(["a"] * many): "x"})
        self.assert_told(True, {"/".join(["p" + str(many)] * many): "x" for many in range(1, 9)})

    def test_empty_texts_and_long_ones(self):
        self.assert_told(True, {"a": "", "b": "", "c/d": ""})
        self.assert_told(True, {"a": "long\n\t~ " * 10000, "b/c": ""})
        self.assert_told(False, {"a": "", "a/b": ""})

    def test_a_text_that_is_no_path_at_each_place(self):
        others = {"a": "1", "b/c": "2", "b/d": "3", "e": "4"}
        for bad in NO_PATHS:
            self.assert_told(False, {bad: "x"})
            for place in range(5):
                self.assert_told(False, put_at({"p" + key: others[key] for key in others}, bad, place))

    def test_a_file_beneath_another_one_ahead_and_behind(self):
        parts = DEEP.split("/")
        for low in range(2, 9):
            for high in range(1, low):
                upper, lower = "/".join(parts[:high]), "/".join(parts[:low])
                self.assert_told(False, {upper: "x", lower: "y"})
                self.assert_told(False, {lower: "x", upper: "y"})

    def test_a_file_beneath_another_one_at_each_place(self):
        others = {"b": "1", "a/c": "2", "ab": "3", "a.b": "4"}
        self.assert_told(True, others)
        for first in range(5):
            for second in range(6):
                self.assert_told(True, put_at(put_at(others, "a/b", first), "a/d", second))
                self.assert_told(False, put_at(put_at(others, "a/b", first), "a/b/x", second))
                self.assert_told(False, put_at(put_at(others, "c/b/x/y", first), "c", second))

    def test_beginnings_as_texts_but_not_as_parts(self):
        for one, other in (("a", "ab"), ("a/b", "a/b.c"), ("a", "ab/c"), ("a/b", "a/bc/d"), ("a", "a-/b"),
                           ("a", "A/b"), ("b", "a/b"), ("b/c", "a/b/c"), ("a/b/c", "a/c"), ("a.", "a/b")):
            self.assert_told(True, {one: "x", other: "y"})
            self.assert_told(True, {other: "x", one: "y"})

    def test_every_choice_of_some_paths(self):
        paths = ("a", "a/b", "a/b/c", "a/b.c", "ab", "a/bc", "b/a")
        for many in range(len(paths) + 1):
            for chosen in itertools.combinations(paths, many):
                files = {path: "" for path in chosen}
                self.assert_told(not beneath_one_another(files), files)
                files = {path: "" for path in reversed(chosen)}
                self.assert_told(not beneath_one_another(files), files)

    def test_many_files(self):
        files = many_files(200)
        self.assert_told(True, files)
        for place in (0, 100, 200):
            self.assert_told(False, put_at(files, "dir-0", place))
            self.assert_told(False, put_at(files, "file.198/x", place))
            self.assert_told(False, put_at(files, "file.198//x", place))


class TestDone(RoadCase):
    tree = {"a": "1", "b/c": "2", "b/d/e": "3"}

    def assert_done(self, wanted, tree, deed):
        with self.subTest(tree=tree, deed=deed):
            self.assertEqual(self.answer(done, tree, deed), wanted)

    def test_a_put_of_a_new_path(self):
        for path in ("n", "b/n", "b/d/n", "ab", "a.b", "b/cc", "b/d/e-/f", "A", "A/b", "n/a/b/c/d/e/f/g"):
            self.assert_done({**self.tree, path: "new"}, self.tree, ("put", path, "new"))
        self.assert_done({"a": "x"}, {}, ("put", "a", "x"))
        self.assert_done({DEEP: "x"}, {}, ("put", DEEP, "x"))

    def test_a_put_of_a_path_that_is_there(self):
        for path in self.tree:
            for text in ("new", "", self.tree[path]):
                self.assert_done({**self.tree, path: text}, self.tree, ("put", path, text))

    def test_an_empty_text_is_a_file(self):
        self.assert_done({"a": ""}, {}, ("put", "a", ""))
        self.assert_done({}, {"a": ""}, ("cut", "a"))
        self.assert_refused(InTheWay, done, {"a": ""}, ("put", "a/b", ""))
        self.assert_refused(InTheWay, done, {"a/b": ""}, ("put", "a", ""))

    def test_long_texts(self):
        text = "~ \t\n" * 20000
        self.assert_done({"a": text}, {}, ("put", "a", text))

    def test_a_put_beneath_a_file(self):
        for path in ("a/b", "a/b/c/d/e/f/g/h", "b/c/d", "b/c/d/e", "b/d/e/f"):
            with self.subTest(path=path):
                self.assert_refused(InTheWay, done, self.tree, ("put", path, "x"))

    def test_a_put_beneath_which_a_file_lies(self):
        for path in ("b", "b/d"):
            with self.subTest(path=path):
                self.assert_refused(InTheWay, done, self.tree, ("put", path, "x"))
        for many in range(1, 8):
            upper = "/".join(DEEP.split("/")[:many])
            self.assert_refused(InTheWay, done, {"x": "", DEEP: "y"}, ("put", upper, "x"))
            self.assert_refused(InTheWay, done, {"x": "", upper: "y"}, ("put", DEEP, "x"))

    def test_a_cut_of_a_file_that_is_there(self):
        for path in self.tree:
            wanted = {name: self.tree[name] for name in self.tree if name != path}
            self.assert_done(wanted, self.tree, ("cut", path))

    def test_a_cut_of_a_file_that_is_not_there(self):
        for path in ("n", "A", "a/b", "b/cc", "c", "b/c/d", "e", "d/e"):
            with self.subTest(path=path):
                self.assert_refused(NoFile, done, self.tree, ("cut", path))
        self.assert_refused(NoFile, done, {}, ("cut", "a"))

    def test_a_cut_of_a_folder(self):
        for path in ("b", "b/d"):
            with self.subTest(path=path):
                self.assert_refused(NoFile, done, self.tree, ("cut", path))

    def test_texts_that_are_no_paths(self):
        for bad in NO_PATHS:
            for tree in ({}, self.tree):
                with self.subTest(bad=bad, tree=tree):
                    self.assert_refused(NoPath, done, tree, ("put", bad, "x"))
                    self.assert_refused(NoPath, done, tree, ("cut", bad))

    def test_no_path_goes_ahead_of_the_others(self):
        for bad in ("a/", "a//b", "a/..", "b/", "b/c/", "a/thirteen-sign", "a/b/c/d/e/f/g/h/i"):
            with self.subTest(bad=bad):
                self.assert_refused(NoPath, done, self.tree, ("put", bad, "x"))
                self.assert_refused(NoPath, done, self.tree, ("cut", bad))

    def test_a_cut_is_never_in_the_way(self):
        self.assert_refused(NoFile, done, {"a": ""}, ("cut", "a/b"))
        self.assert_refused(NoFile, done, {"a/b": ""}, ("cut", "a"))

    def test_the_answer_is_another_dict(self):
        tree = dict(self.tree)
        for deed in (("put", "a", "1"), ("put", "n", "x"), ("cut", "a")):
            after = done(tree, deed)
            self.assertIsNot(after, tree)
            after["b/c"] = "changed"
            after["more"] = "more"
            self.assertEqual(tree, self.tree)

    def test_many_files(self):
        files = many_files(200)
        for path in files:
            after = done(files, ("cut", path))
            self.assertEqual(len(after), 199)
            self.assertEqual(done(after, ("put", path, files[path])), files)
            self.assert_refused(InTheWay, done, files, ("put", path + "/x", ""))

    def test_every_small_tree_and_deed(self):
        paths = ("a", "a/b", "a/b/c", "ab")
        for tree in all_trees(paths, ("", "x")):
            for path in paths:
                for text in ("", "new"):
                    wanted = {**tree, path: text}
                    if beneath_one_another(wanted):
                        self.assert_refused(InTheWay, done, tree, ("put", path, text))
                    else:
                        self.assert_done(wanted, tree, ("put", path, text))
                if path in tree:
                    self.assert_done({key: tree[key] for key in tree if key != path}, tree, ("cut", path))
                else:
                    self.assert_refused(NoFile, done, tree, ("cut", path))


class TestChanged(RoadCase):
    def assert_changed(self, wanted, tree, deeds):
        with self.subTest(tree=tree, deeds=deeds):
            self.assertEqual(self.answer(changed, tree, deeds), wanted)

    def test_a_row_without_deeds(self):
        for tree in ({}, {"a": "1"}, {"a": "1", "b/c": ""}):
            self.assert_changed(tree, tree, [])
            after = changed(tree, [])
            self.assertIsNot(after, tree)

    def test_a_row_of_one(self):
        self.assert_changed({"a": "x"}, {}, [("put", "a", "x")])
        self.assert_changed({"b": "y"}, {"a": "x", "b": "y"}, [("cut", "a")])

    def test_the_later_deed_counts(self):
        self.assert_changed({"a": "2"}, {}, [("put", "a", "1"), ("put", "a", "2")])
        self.assert_changed({}, {}, [("put", "a", "1"), ("cut", "a")])
        self.assert_changed({"a": ""}, {"a": "1"}, [("cut", "a"), ("put", "a", "")])

    def test_a_deed_that_an_earlier_one_makes_room_for(self):
        self.assert_changed({"a/b": "x"}, {"a": "1"}, [("cut", "a"), ("put", "a/b", "x")])
        self.assert_changed({"a": "x"}, {"a/b": "1"}, [("cut", "a/b"), ("put", "a", "x")])
        self.assert_changed({"a": "x"}, {"a/b": "1", "a/c/d": "2"},
                            [("cut", "a/b"), ("cut", "a/c/d"), ("put", "a", "x")])
        self.assert_changed({"a/b/c": "z"}, {"a": "1"}, [("cut", "a"), ("put", "a/b", "y"), ("cut", "a/b"),
                                                         ("put", "a/b/c", "z")])

    def test_a_deed_that_an_earlier_one_is_in_the_way_of(self):
        self.assert_refused(InTheWay, changed, {}, [("put", "a", "1"), ("put", "a/b", "x")])
        self.assert_refused(InTheWay, changed, {}, [("put", "a/b", "1"), ("put", "a", "x")])
        self.assert_refused(InTheWay, changed, {"a": "1"}, [("put", "a/b", "x"), ("cut", "a")])
        self.assert_refused(InTheWay, changed, {"a/b": "1", "a/c": "2"}, [("cut", "a/b"), ("put", "a", "x")])
        self.assert_refused(NoFile, changed, {"a": "1"}, [("cut", "a"), ("cut", "a")])

    def test_the_first_refused_deed_refuses_the_row(self):
        good, more = ("put", "g", "x"), ("put", "h", "y")
        bad = {NoPath: ("put", "a//b", "x"), NoFile: ("cut", "n"), InTheWay: ("put", "a/b", "x")}
        tree = {"a": "1"}
        for kind in bad:
            for row in ([bad[kind]], [bad[kind], good], [good, bad[kind]], [good, bad[kind], more],
                        [good, more, bad[kind]]):
                self.assert_refused(kind, changed, tree, row)
            for other in bad.values():
                self.assert_refused(kind, changed, tree, [good, bad[kind], other])

    def test_rows_of_many(self):
        files = many_files(200)
        puts = [("put", path, files[path]) for path in files]
        cuts = [("cut", path) for path in files]
        self.assert_changed(files, {}, puts)
        self.assert_changed({}, files, cuts)
        self.assert_changed({}, {}, puts + cuts)
        self.assert_changed(files, files, cuts + puts)
        self.assert_refused(NoFile, changed, {}, puts + cuts + cuts[-1:])
        self.assert_refused(InTheWay, changed, {}, puts + [("put", "dir-0", "")])


class TestBetween(RoadCase):
    def assert_between(self, wanted, old, new):
        with self.subTest(old=old, new=new):
            deeds = self.answer(between, old, new)
            self.assertIsInstance(deeds, list)
            self.assertEqual(deeds, wanted)
            self.assertEqual(changed(old, deeds), new)

    def test_trees_that_are_alike(self):
        for tree in ({}, {"a": ""}, {"a": "1", "b/c": "2"}):
            self.assert_between([], tree, dict(tree))
            self.assert_between([], tree, tree)
        self.assert_between([], {"a": "1", "b": "2"}, {"b": "2", "a": "1"})

    def test_cuts_first_then_puts(self):
        self.assert_between([("cut", "b"), ("cut", "d"), ("put", "a", "5"), ("put", "c", "6"), ("put", "e", "7")],
                            {"d": "1", "c": "2", "b": "3", "f": "4"}, {"f": "4", "e": "7", "c": "6", "a": "5"})

    def test_a_file_with_another_text(self):
        self.assert_between([("put", "a", "2")], {"a": "1"}, {"a": "2"})
        self.assert_between([("put", "a", "")], {"a": "1"}, {"a": ""})
        self.assert_between([("put", "a", "1")], {"a": ""}, {"a": "1"})

    def test_an_empty_text_is_not_nothing(self):
        self.assert_between([("put", "a", "")], {}, {"a": ""})
        self.assert_between([("cut", "a")], {"a": ""}, {})

    def test_paths_rise_as_texts(self):
        rising = ["-", ".a", "0", "9", "A", "Z", "_", "a-b", "a.b", "a/B", "a/b", "a0", "a0b", "aA", "a_b", "ab", "b"]
        self.assertEqual(rising, sorted(rising))
        for shown in (rising, rising[::-1], rising[8:] + rising[:8]):
            files = {path: "x" for path in shown}
            others = {path: "y" for path in shown[::-1]}
            cuts = [("cut", path) for path in rising]
            puts = [("put", path, "x") for path in rising]
            self.assert_between(cuts, files, {})
            self.assert_between(puts, {}, files)
            self.assert_between(puts, others, files)

    def test_a_file_and_a_folder_change_places(self):
        self.assert_between([("cut", "a"), ("put", "a/b", "2")], {"a": "1"}, {"a/b": "2"})
        self.assert_between([("cut", "a/b"), ("put", "a", "2")], {"a/b": "1"}, {"a": "2"})
        self.assert_between([("cut", "a/b/c"), ("cut", "a/d"), ("cut", "z"), ("put", "a", "5"), ("put", "z/y", "6")],
                            {"z": "3", "a/d": "2", "a/b/c": "1"}, {"z/y": "6", "a": "5"})

    def test_every_two_small_trees(self):
        trees = all_trees(("a", "a/b", "a/b/c", "a.b"), ("", "x"))
        for old, new in itertools.product(trees, trees):
            gone = sorted(path for path in old if path not in new)
            come = sorted(path for path in new if (path, new[path]) not in old.items())
            wanted = [("cut", path) for path in gone] + [("put", path, new[path]) for path in come]
            self.assert_between(wanted, old, new)

    def test_a_row_is_the_askers_own(self):
        old, new = {"a": "1"}, {"b": "2"}
        row = between(old, new)
        row.append(("cut", "b"))
        row[0] = ("cut", "x")
        self.assertEqual(between(old, new), [("cut", "a"), ("put", "b", "2")])

    def test_many_files(self):
        files = many_files(200)
        paths = sorted(files)
        new = {path: files[path] for path in paths[50:]}
        new.update({path: "other" for path in paths[150:]})
        new.update({"new." + str(at): "" for at in range(50)})
        added = sorted(paths[150:] + ["new." + str(at) for at in range(50)])
        wanted = [("cut", path) for path in paths[:50]] + [("put", path, new[path]) for path in added]
        self.assert_between(wanted, files, new)


if __name__ == "__main__":
    unittest.main()
