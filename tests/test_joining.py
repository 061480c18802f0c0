"""Points 8 to 12 of the document: the marks and clashes of three trees, and what is joined of them."""

import itertools
import unittest

from roadcase import NO_PATHS, RoadCase, all_trees, beneath_one_another, many_files

from threeroad.errors import Clashed, NoClash
from threeroad.joining import clashes, joined, marks
from threeroad.trees import is_tree

TURNED = {"one": "other", "other": "one", "alike": "alike", "clash": "clash"}
NOTHING = None


def told_at(before, left, right):
    """The word and what stands at a path, written down from points 8 and 9."""
    if left == right:
        return ("" if left == before else "alike"), left
    changed = [text for text in (left, right) if text != before]
    if len(changed) == 2:
        return "clash", NOTHING
    return ("one" if left != before else "other"), changed[0]


def told(elder, one, other):
    """The marks, the files outside of single clashes, and the clashes, by points 8 to 10."""
    rows, files = [], {}
    for path in sorted({**elder, **one, **other}):
        word, text = told_at(elder.get(path), one.get(path), other.get(path))
        if word:
            rows.append((path, word))
        if text is not NOTHING:
            files[path] = text
    found = [(path,) for path, word in rows if word == "clash"]
    for upper, lower in itertools.product(files, files):
        if lower.startswith(upper + "/"):
            found.append((upper, lower))
    return rows, files, sorted(found)


class JoinCase(RoadCase):
    def assert_marks(self, wanted, elder, one, other):
        with self.subTest(elder=elder, one=one, other=other):
            found = self.answer(marks, elder, one, other)
            self.assertIsInstance(found, list)
            self.assertEqual(found, wanted)
            turned = [(path, TURNED[word]) for path, word in wanted]
            self.assertEqual(self.answer(marks, elder, other, one), turned)

    def assert_clashes(self, wanted, elder, one, other):
        with self.subTest(elder=elder, one=one, other=other):
            found = self.answer(clashes, elder, one, other)
            self.assertIsInstance(found, list)
            self.assertEqual(found, wanted)
            self.assertEqual(self.answer(clashes, elder, other, one), wanted)

    def assert_joined(self, wanted, elder, one, other, picks):
        with self.subTest(elder=elder, one=one, other=other, picks=picks):
            found = self.answer(joined, elder, one, other, picks)
            self.assertIsInstance(found, dict)
            self.assertEqual(found, wanted)
            self.assertTrue(is_tree(found))
            self.assertEqual(self.answer(joined, elder, other, one, picks), wanted)

    def assert_not_joined(self, kind, elder, one, other, picks):
        with self.subTest(elder=elder, one=one, other=other, picks=picks):
            self.assert_refused(kind, joined, elder, one, other, picks)
            self.assert_refused(kind, joined, elder, other, one, picks)


class TestOnePath(JoinCase):
    """Each way in which a text or nothing can stand at one path of the three trees."""

    def check(self, before, left, right, word, stands):
        trees = [{} if text is NOTHING else {"p": text} for text in (before, left, right)]
        self.assert_marks([("p", word)] if word else [], *trees)
        if word == "clash":
            self.assert_clashes([("p",)], *trees)
            self.assert_not_joined(Clashed, *trees, {})
        else:
            self.assert_clashes([], *trees)
            self.assert_joined({} if stands is NOTHING else {"p": stands}, *trees, {})

    def test_all_have_the_same(self):
        for text in (NOTHING, "", "x"):
            self.check(text, text, text, "", text)

    def test_one_side_alone_puts(self):
        for text in ("", "x"):
            self.check(NOTHING, text, NOTHING, "one", text)
            self.check(NOTHING, NOTHING, text, "other", text)

    def test_one_side_alone_cuts(self):
        for text in ("", "x"):
            self.check(text, NOTHING, text, "one", NOTHING)
            self.check(text, text, NOTHING, "other", NOTHING)

    def test_one_side_alone_puts_another_text(self):
        for before, text in (("x", "y"), ("x", ""), ("", "x")):
            self.check(before, text, before, "one", text)
            self.check(before, before, text, "other", text)

    def test_both_change_alike(self):
        for before, text in ((NOTHING, "x"), (NOTHING, ""), ("x", "y"), ("x", ""), ("", "x"), ("x", NOTHING),
                             ("", NOTHING)):
            self.check(before, text, text, "alike", text)

    def test_both_change_otherwise(self):
        for before, left, right in ((NOTHING, "x", "y"), (NOTHING, "", "y"), ("x", "y", "z"), ("x", "", "z"),
                                    ("", "y", "z"), ("x", NOTHING, "y"), ("x", NOTHING, ""), ("", NOTHING, "y")):
            self.check(before, left, right, "clash", NOTHING)
            self.check(before, right, left, "clash", NOTHING)


class TestMarks(JoinCase):
    def test_empty_trees(self):
        self.assert_marks([], {}, {}, {})

    def test_all_words_together(self):
        elder = {"keep": "k", "mine": "1", "yours": "2", "gone": "3", "both": "4", "war": "5", "empty": ""}
        one = {"keep": "k", "mine": "a", "yours": "2", "both": "b", "war": "x", "new/1": "n", "same": "s"}
        other = {"keep": "k", "mine": "1", "gone": "3", "both": "b", "war": "y", "new/2": "m", "same": "s"}
        self.assert_marks([("both", "alike"), ("empty", "alike"), ("gone", "one"), ("mine", "one"),
                           ("new/1", "one"), ("new/2", "other"), ("same", "alike"), ("war", "clash"),
                           ("yours", "other")], elder, one, other)

    def test_paths_rise_as_texts(self):
        rising = ["-", ".a", "0", "A", "Z", "_", "a-b", "a.b", "a/B", "a/b", "a0", "aA", "a_b", "ab", "b"]
        for shown in (rising, rising[::-1], rising[7:] + rising[:7]):
            elder, one, other = {}, {}, {}
            words = {}
            for at, path in enumerate(shown):
                words[path] = ("one", "other", "alike", "clash")[at % 4]
                if words[path] != "other":
                    one[path] = "x"
                if words[path] != "one":
                    other[path] = "y" if words[path] == "clash" else "x"
            self.assert_marks([(path, words[path]) for path in rising], elder, one, other)
            self.assert_marks([(path, "one") for path in rising], {path: "" for path in shown}, {},
                              {path: "" for path in shown})

    def test_a_file_gives_way_to_a_folder(self):
        self.assert_marks([("a", "one"), ("a/b", "one")], {"a": "1"}, {"a/b": "2"}, {"a": "1"})
        self.assert_marks([("a", "clash"), ("a/b", "one")], {"a": "1"}, {"a/b": "2"}, {"a": "3"})


class TestClashes(JoinCase):
    def test_no_clash(self):
        self.assert_clashes([], {}, {}, {})
        self.assert_clashes([], {"a": "1"}, {"a": "2"}, {"a": "1", "b": "3"})
        self.assert_clashes([], {"a": "1"}, {"a/b": "2"}, {"a": "1"})
        self.assert_clashes([], {"a": "1"}, {"a/b": "2"}, {"c": "3"})
        self.assert_clashes([], {}, {"a": "1"}, {"ab": "2", "a.b/c": "3", "A/b": "4"})

    def test_single_paths(self):
        self.assert_clashes([("a",), ("b/c",), ("d",)], {"d": "0", "b/c": "0", "e": "0"},
                            {"d": "1", "b/c": "1", "a": "1", "e": "1"}, {"a": "2", "b/c": "2", "e": "0"})

    def test_pairs_with_one_two_and_more_parts_between(self):
        lower = "a/b/c/d/e/f/g/h"
        for many in range(1, 8):
            upper = "/".join(lower.split("/")[:many])
            self.assert_clashes([(upper, lower)], {}, {upper: "1"}, {lower: "2"})
            self.assert_clashes([(upper, lower)], {"k": ""}, {"k": "", upper: ""}, {"k": "", lower: ""})

    def test_several_lower_paths_beneath_one_upper(self):
        self.assert_clashes([("a", "a/-"), ("a", "a/b"), ("a", "a/c/d"), ("a", "a/c/e")], {},
                            {"a": "1", "b": "x"}, {"a/c/e": "5", "a/c/d": "4", "a/b": "3", "a/-": "2", "ab/c": "6"})

    def test_several_uppers_with_lower_paths_of_their_own(self):
        self.assert_clashes([("a/b", "a/b/c"), ("a/b", "a/b/d"), ("a/e", "a/e/f"), ("z", "z/y/x")], {},
                            {"z/y/x": "1", "a/e": "2", "a/b/d": "3", "a/b/c": "4"},
                            {"z": "5", "a/e/f": "6", "a/b": "7"})

    def test_uppers_of_both_sides_above_lower_paths_of_the_other(self):
        self.assert_clashes([("a", "a/b/c"), ("d/e", "d/e/f")], {}, {"a": "1", "d/e/f": "2"},
                            {"a/b/c": "3", "d/e": "4"})

    def test_folders_that_both_sides_fill(self):
        self.assert_clashes([], {}, {"a/b": "1"}, {"a/c": "2", "a/bc": "3"})

    def test_both_sorts_in_the_order_of_tuples(self):
        self.assert_clashes([("a", "a/b"), ("a.b",), ("b",), ("c", "c/d"), ("c", "c/e"), ("c.d",), ("d",)],
                            {"b": "0", "d": "0"},
                            {"a": "1", "a.b": "1", "b": "1", "c/d": "1", "c/e": "1", "c.d": "1"},
                            {"a/b": "2", "a.b": "2", "b": "2", "c": "2", "c.d": "2", "d": "2"})

    def test_a_path_that_clashes_singly_is_in_no_pair(self):
        self.assert_clashes([("a",)], {"a": "0"}, {"a": "1"}, {"a/b": "2"})
        self.assert_clashes([("a/b",)], {"a/b": "0"}, {"a/b": "1"}, {"a": "2"})
        self.assert_clashes([("a/b",), ("a/c",)], {"a/b": "0", "a/c": "0"}, {"a/b": "1", "a/c": "1"}, {"a": "2"})

    def test_a_path_may_be_in_a_pair_beside_a_single_one(self):
        elder, one, other = {"a/b": "0"}, {"a": "1"}, {"a/b": "2", "a/c": "3"}
        self.assert_clashes([("a", "a/c"), ("a/b",)], elder, one, other)
        self.assert_clashes([("a", "a/b/d"), ("a", "a/c"), ("a/e",)], {"a/e": "0"}, {"a": "1"},
                            {"a/b/d": "2", "a/c": "3", "a/e": "4"})

    def test_many_clashes(self):
        files = many_files(200)
        one = {path: "1" for path in files}
        other = {path: "2" for path in files}
        self.assert_clashes([(path,) for path in sorted(files)], files, one, other)
        beneath = {path + "/x": "3" for path in list(files)[::2]}
        pairs = [(path, path + "/x") for path in sorted(list(files)[::2])]
        self.assert_clashes(pairs, {}, {path: files[path] for path in list(files)[::2]}, beneath)


class TestJoined(JoinCase):
    pair = ({}, {"a": "1", "k": "2"}, {"a/b": "3", "m": "4"})
    single = ({"p": "0", "m": "0"}, {"p": "1", "m": "0"}, {"p": "2", "m": "5"})

    def test_without_a_clash(self):
        self.assert_joined({}, {}, {}, {}, {})
        self.assert_joined({"a": "1", "b": "2"}, {}, {"a": "1"}, {"b": "2"}, {})
        self.assert_joined({}, {"a": "1", "b": "2"}, {"a": "1"}, {"b": "2"}, {})
        self.assert_joined({"a/b": "2", "c": "3"}, {"a": "1"}, {"a/b": "2"}, {"a": "1", "c": "3"}, {})
        self.assert_joined({"a": "2"}, {"a/b": "1", "a/c": "1"}, {"a": "2"}, {"a/b": "1", "a/c": "1"}, {})
        self.assert_joined({"a": "2"}, {"a/b": "1", "a/c": "1"}, {"a": "2"}, {"a/b": "1"}, {})

    def test_a_side_that_changed_nothing(self):
        for elder, side in (({}, {"a": "1"}), ({"a": "1"}, {}), ({"a": "1"}, {"a/b": ""}), ({"a": ""}, {"a": "2"})):
            self.assert_joined(side, elder, elder, side, {})
            self.assert_joined(side, elder, side, side, {})

    def test_picks_for_a_single_path(self):
        for text in ("1", "2", "0", "new", "", "long ~\t\n" * 5000):
            self.assert_joined({"p": text, "m": "5"}, *self.single, {"p": text})
        self.assert_joined({"m": "5"}, *self.single, {"p": None})

    def test_an_empty_pick_is_a_text(self):
        self.assert_joined({"p": ""}, {}, {"p": "1"}, {"p": "2"}, {"p": ""})
        self.assert_not_joined(Clashed, *self.pair, {"a": ""})
        self.assert_not_joined(Clashed, *self.pair, {"a/b": ""})

    def test_picks_for_the_paths_of_a_pair(self):
        self.assert_joined({"a": "1", "k": "2", "m": "4"}, *self.pair, {"a/b": None})
        self.assert_joined({"a/b": "3", "k": "2", "m": "4"}, *self.pair, {"a": None})
        self.assert_joined({"k": "2", "m": "4"}, *self.pair, {"a": None, "a/b": None})
        self.assert_joined({"a": "new", "k": "2", "m": "4"}, *self.pair, {"a": "new", "a/b": None})
        self.assert_joined({"a/b": "", "k": "2", "m": "4"}, *self.pair, {"a/b": "", "a": None})

    def test_a_clash_without_a_pick(self):
        self.assert_not_joined(Clashed, *self.single, {})
        self.assert_not_joined(Clashed, *self.pair, {})
        two = ({}, {"p": "1", "q": "1"}, {"p": "2", "q": "2"})
        self.assert_not_joined(Clashed, *two, {"p": "1"})
        self.assert_not_joined(Clashed, *two, {"q": None})
        self.assert_joined({"p": "1"}, *two, {"q": None, "p": "1"})

    def test_picks_that_leave_a_file_beneath_another_one(self):
        for picks in ({"a": "x"}, {"a/b": "x"}, {"a": "x", "a/b": "y"}, {"a": "1", "a/b": "3"}, {"a": "", "a/b": ""}):
            self.assert_not_joined(Clashed, *self.pair, picks)

    def test_a_pick_for_a_single_path_can_lie_beneath_or_above(self):
        self.assert_not_joined(Clashed, {"a": "0"}, {"a": "1"}, {"a/b": "2"}, {"a": "1"})
        self.assert_joined({"a/b": "2"}, {"a": "0"}, {"a": "1"}, {"a/b": "2"}, {"a": None})
        self.assert_not_joined(Clashed, {"a/b": "0"}, {"a/b": "1"}, {"a": "2"}, {"a/b": "1"})
        self.assert_not_joined(Clashed, {"a/b": "0"}, {"a/b": "1"}, {"a": "2"}, {"a/b": ""})
        self.assert_joined({"a": "2"}, {"a/b": "0"}, {"a/b": "1"}, {"a": "2"}, {"a/b": None})

    def test_picks_for_one_upper_and_several_lower_paths(self):
        three = ({}, {"a": "1"}, {"a/b": "2", "a/c/d": "3"})
        self.assert_joined({"a/b": "2", "a/c/d": "3"}, *three, {"a": None})
        self.assert_joined({"a/b": "x", "a/c/d": "3"}, *three, {"a": None, "a/b": "x"})
        self.assert_joined({"a/c/d": "3"}, *three, {"a": None, "a/b": None})
        self.assert_joined({"a": "1"}, *three, {"a/b": None, "a/c/d": None})
        self.assert_not_joined(Clashed, *three, {"a/b": None})
        self.assert_not_joined(Clashed, *three, {"a/c/d": None})

    def test_picks_for_both_sorts(self):
        three = ({"a/b": "0"}, {"a": "1"}, {"a/b": "2", "a/c": "3"})
        self.assert_joined({"a": "1"}, *three, {"a/b": None, "a/c": None})
        self.assert_joined({"a/b": "x", "a/c": "3"}, *three, {"a": None, "a/b": "x"})
        self.assert_joined({"a/c": "3"}, *three, {"a": None, "a/b": None})
        self.assert_not_joined(Clashed, *three, {"a": None})
        self.assert_not_joined(Clashed, *three, {"a/b": None})
        self.assert_not_joined(Clashed, *three, {"a/b": "x", "a/c": None})

    def test_a_pick_for_a_path_in_no_clash(self):
        for text in ("1", "", None):
            for path in ("n", "m", "p/q", "P", "pp"):
                self.assert_not_joined(NoClash, *self.single, {path: text, "p": "1"})
                self.assert_not_joined(NoClash, *self.single, {"p": "1", path: text})
            for path in ("k", "m", "n", "a/c", "a/b/c"):
                self.assert_not_joined(NoClash, *self.pair, {path: text, "a": None})
            self.assert_not_joined(NoClash, {}, {}, {}, {"a": text})

    def test_a_pick_for_a_path_that_is_marked_or_stands_alike(self):
        three = ({"e": "0", "f": "0"}, {"e": "1", "f": "0", "g": "2"}, {"e": "0", "f": "3", "g": "2"})
        for path in ("e", "f", "g"):
            for text in ("0", "1", "", None):
                self.assert_not_joined(NoClash, *three, {path: text})
        self.assert_not_joined(NoClash, {"e": "0"}, {"e": "0"}, {"e": "0"}, {"e": "0"})

    def test_a_pick_for_a_file_beneath_a_single_clash(self):
        for text in ("2", None):
            self.assert_not_joined(NoClash, {"a": "0"}, {"a": "1"}, {"a/b": "2"}, {"a": "1", "a/b": text})

    def test_a_pick_for_a_text_that_is_no_path(self):
        for bad in NO_PATHS:
            for text in ("x", None):
                self.assert_not_joined(NoClash, {}, {"a": "1"}, {"b": "2"}, {bad: text})
                self.assert_not_joined(NoClash, *self.single, {"p": "1", bad: text})

    def test_no_clash_goes_ahead_of_clashed(self):
        for text in ("x", None):
            self.assert_not_joined(NoClash, *self.single, {"n": text})
            self.assert_not_joined(NoClash, *self.pair, {"n": text})
            self.assert_not_joined(NoClash, *self.pair, {"a": "1", "n": text})
            self.assert_not_joined(NoClash, *self.pair, {"n": text, "a": "1", "a/b": "2"})
            self.assert_not_joined(NoClash, *self.pair, {"a": "1", "a/b": "2", "a//b": text})

    def test_the_answer_is_another_dict(self):
        for elder, one, other, picks in (({}, {}, {}, {}), ({"a": "1"}, {"a": "1"}, {"a": "1"}, {}),
                                         ({}, {"a": "1"}, {"a": "2"}, {"a": "3"})):
            found = joined(elder, one, other, picks)
            for given in (elder, one, other, picks):
                self.assertIsNot(found, given)
            before = repr((elder, one, other, picks))
            found["more"] = "more"
            found.pop("a", None)
            self.assertEqual(repr((elder, one, other, picks)), before)

    def test_many_files(self):
        elder = many_files(200)
        paths = sorted(elder)
        one = {path: elder[path] for path in paths[20:]}
        other = {path: elder[path] for path in paths[:180]}
        one.update({path: "one" for path in paths[100:120]})
        other.update({path: "other" for path in paths[110:130]})
        one.update({"new." + str(at): "1" for at in range(20)})
        other.update({"new." + str(at) + "/x": "2" for at in range(10, 30)})
        singles = [(path,) for path in paths[110:120]]
        pairs = [("new." + str(at), "new." + str(at) + "/x") for at in range(10, 20)]
        self.assert_clashes(sorted(singles + pairs), elder, one, other)
        picks = {path: "picked" for path in paths[110:115]}
        picks.update({path: None for path in paths[115:120]})
        self.assert_not_joined(Clashed, elder, one, other, picks)
        picks.update({upper: None for upper, _ in pairs})
        wanted = {path: elder[path] for path in paths[20:180]}
        wanted.update({path: "one" for path in paths[100:110]})
        wanted.update({path: "other" for path in paths[120:130]})
        wanted.update({path: "picked" for path in paths[110:115]})
        wanted = {path: wanted[path] for path in wanted if path not in paths[115:120]}
        wanted.update({"new." + str(at): "1" for at in range(10)})
        wanted.update({"new." + str(at) + "/x": "2" for at in range(10, 30)})
        self.assert_joined(wanted, elder, one, other, picks)


class TestEverySmallJoin(JoinCase):
    """All joins of small trees, beside what the points tell path by path."""

    trees = all_trees(("a", "a/b", "a/b/c"), ("", "x")) + [{"a": "y"}, {"a/b": "x", "a/d": "x"}, {"a/d": "y"}]

    def triples(self):
        return itertools.product(self.trees, self.trees, self.trees)

    def test_marks_and_clashes(self):
        for three in self.triples():
            rows, _, found = told(*three)
            self.assert_marks(rows, *three)
            self.assert_clashes(found, *three)

    def test_the_second_sort_is_put_by_both_sides(self):
        for elder, one, other in self.triples():
            for clash in clashes(elder, one, other):
                if len(clash) == 2:
                    upper, lower = clash
                    self.assertFalse(upper in elder or lower in elder)
                    self.assertTrue((upper in one and lower in other) or (upper in other and lower in one))

    def test_joins_with_all_picks(self):
        for three in self.triples():
            rows, files, found = told(*three)
            needed = [path for path, word in rows if word == "clash"]
            within = sorted({path for clash in found for path in clash})
            for chosen in itertools.product(("leave", "", None), repeat=len(within)):
                picks = {path: text for path, text in zip(within, chosen) if text != "leave"}
                wanted = {path: text for path, text in {**files, **picks}.items() if text is not None}
                if any(path not in picks for path in needed) or beneath_one_another(wanted):
                    self.assert_not_joined(Clashed, *three, picks)
                else:
                    self.assert_joined(wanted, *three, picks)
                self.assert_not_joined(NoClash, *three, {**picks, "n": "x"})

    def test_picks_for_paths_in_no_clash(self):
        for three in self.triples():
            _, _, found = told(*three)
            for path in ("a", "a/b", "a/b/c", "a/d"):
                if not any(path in clash for clash in found):
                    self.assert_not_joined(NoClash, *three, {path: None})


if __name__ == "__main__":
    unittest.main()
