"""Points 13 to 18 of the document, and point 1 over a whole book."""

import copy
import random
import unittest

from roadcase import NO_PATHS, RoadCase, many_files

from threeroad.book import Book
from threeroad.errors import (Clashed, InTheWay, NoClash, NoFile, NoPath, NoVersion, RoadError, SameVersion)
from threeroad.joining import clashes, joined
from threeroad.trees import changed

GREAT = (10 ** 20, 10 ** 4000, 2 ** 63)
BELOW = (-1, -2, -3, -10 ** 20)


def put(path, text="x"):
    return [("put", path, text)]


def cut(path):
    return [("cut", path)]


def whole(book):
    """All that a book tells of its versions."""
    rows = []
    for number in range(book.many()):
        rows.append((book.tree(number), book.parents(number), book.elders(number)))
    return rows


def elders_of(book, number):
    """The elders, asked parent by parent."""
    found, left = set(), [number]
    while left:
        at = left.pop()
        if at not in found:
            found.add(at)
            left.extend(book.parents(at))
    return sorted(found)


class BookCase(RoadCase):
    def assert_left(self, kind, book, action, *given):
        """The call is refused, and the book tells what it told before."""
        before = whole(book)
        self.assert_refused(kind, action, *given)
        self.assertEqual(whole(book), before)

    def assert_road(self, book, elder, number):
        road = book.road(elder, number)
        self.assertIsInstance(road, list)
        self.assertEqual((road[0], road[-1]), (elder, number))
        for above, at in zip(road, road[1:]):
            self.assertIn(above, book.parents(at))

    def assert_elders(self, book, wanted):
        for number in range(book.many()):
            with self.subTest(number=number):
                self.assertEqual(self.answer(book.elders, number), wanted[number])
                self.assertIsInstance(book.elders(number), list)


def crossed_book():
    """A book in which two versions were merged crosswise, twice.

    0 - 1 and 2; 3 of 1, 4 of 2; 5 and 6 of 1 and 2; 7 of 5, 8 of 6; 9 of 7 and 8.
    """
    book = Book()
    book.grow(0, put("a", "1"))
    book.grow(0, put("b", "2"))
    book.grow(1, put("c", "3"))
    book.grow(2, put("d", "4"))
    book.merge(1, 2, {})
    book.merge(2, 1, {})
    book.grow(5, put("e", "5"))
    book.grow(6, put("f", "6"))
    book.merge(8, 7, {})
    return book


class TestVersions(BookCase):
    def test_a_new_book(self):
        book = Book()
        self.assertEqual(book.many(), 1)
        self.assertEqual(book.tree(0), {})
        self.assertEqual(book.parents(0), ())
        self.assertEqual(book.elders(0), [0])

    def test_numbers_from_0_on(self):
        book = Book()
        for number in range(1, 6):
            self.assertEqual(book.grow(number // 2, put("p" + str(number))), number)
            self.assertEqual(book.many(), number + 1)
        self.assertEqual(book.merge(4, 5, {}), 6)
        self.assertEqual(book.merge(6, 3, {}), 7)
        self.assertEqual(book.grow(7, []), 8)
        self.assertEqual(book.many(), 9)

    def test_the_tree_behind_a_row_of_deeds(self):
        book = Book()
        book.grow(0, put("a", "1") + put("b/c", "2"))
        book.grow(1, cut("a") + put("a/d", "3") + put("b/c", ""))
        book.grow(1, [])
        self.assertEqual([book.tree(at) for at in range(4)],
                         [{}, {"a": "1", "b/c": "2"}, {"a/d": "3", "b/c": ""}, {"a": "1", "b/c": "2"}])
        self.assertEqual([book.parents(at) for at in range(4)], [(), (0,), (1,), (1,)])

    def test_a_version_upon_an_old_one(self):
        book = Book()
        book.grow(0, put("a", "1"))
        book.grow(1, put("b", "2"))
        book.grow(0, put("c", "3"))
        self.assertEqual(book.tree(3), {"c": "3"})
        self.assertEqual(book.parents(3), (0,))

    def test_parents_are_a_rising_tuple(self):
        for one, other in ((1, 2), (2, 1)):
            book = Book()
            book.grow(0, put("a", "1"))
            book.grow(0, put("b", "2"))
            self.assertEqual(book.merge(one, other, {}), 3)
            self.assertEqual(book.parents(3), (1, 2))
            self.assertIsInstance(book.parents(3), tuple)
            self.assertEqual(book.tree(3), {"a": "1", "b": "2"})

    def test_a_merge_takes_the_nearest_common_elder(self):
        book = Book()
        book.grow(0, put("a", "1") + put("b", "1"))
        book.grow(1, put("a", "2"))
        book.grow(1, cut("b") + put("c", "3"))
        self.assertEqual(book.tree(book.merge(2, 3, {})), {"a": "2", "c": "3"})
        self.assertEqual(book.tree(book.merge(3, 2, {})), {"a": "2", "c": "3"})

    def test_a_merge_with_picks(self):
        for one, other in ((1, 2), (2, 1)):
            book = Book()
            book.grow(0, put("a", "1") + put("p", "1"))
            book.grow(0, put("a/b", "2") + put("p", "2"))
            self.assertEqual(book.tree(book.merge(one, other, {"a": None, "p": "new"})), {"a/b": "2", "p": "new"})
            self.assertEqual(book.tree(book.merge(one, other, {"a/b": None, "p": None})), {"a": "1"})
            self.assertEqual(book.tree(book.merge(one, other, {"a/b": None, "a": "", "p": ""})), {"a": "", "p": ""})

    def test_a_refused_grow_makes_no_version(self):
        book = Book()
        book.grow(0, put("a", "1"))
        for kind, deeds in ((NoPath, put("a//b")), (NoPath, cut("")), (NoFile, cut("b")), (InTheWay, put("a/b")),
                            (NoFile, put("b") + cut("a") + cut("a")), (InTheWay, cut("a") + put("b/c") + put("b"))):
            self.assert_left(kind, book, book.grow, 1, deeds)
        self.assertEqual(book.grow(1, put("b", "2")), 2)
        self.assertEqual(book.tree(2), {"a": "1", "b": "2"})

    def test_a_refused_merge_makes_no_version(self):
        book = Book()
        book.grow(0, put("a", "1") + put("p", "1"))
        book.grow(0, put("a/b", "2") + put("p", "2"))
        for one, other in ((1, 2), (2, 1)):
            for picks in ({}, {"p": "1"}, {"a": None}, {"a": "1", "p": "1"}):
                self.assert_left(Clashed, book, book.merge, one, other, picks)
            for bad in NO_PATHS + ("n", "a/b/c"):
                self.assert_left(NoClash, book, book.merge, one, other, {"a": None, "p": "1", bad: "x"})
                self.assert_left(NoClash, book, book.merge, one, other, {bad: None})
        self.assertEqual(book.merge(1, 2, {"a": None, "p": "1"}), 3)

    def test_books_know_nothing_of_each_other(self):
        first, second = Book(), Book()
        first.grow(0, put("a", "1"))
        first.grow(1, put("b", "2"))
        self.assertEqual(second.many(), 1)
        self.assertEqual(second.tree(0), {})
        self.assert_refused(NoVersion, second.tree, 1)
        self.assertEqual(second.grow(0, put("c", "3")), 1)
        self.assertEqual(second.tree(1), {"c": "3"})
        self.assertEqual(first.tree(1), {"a": "1"})
        self.assertEqual(first.many(), 3)
        self.assertEqual(Book().many(), 1)


class TestElders(BookCase):
    def test_a_row_of_versions(self):
        book = Book()
        for number in range(5):
            book.grow(number, [])
        self.assert_elders(book, [list(range(number + 1)) for number in range(6)])

    def test_versions_that_part_and_join(self):
        self.assert_elders(crossed_book(), [[0], [0, 1], [0, 2], [0, 1, 3], [0, 2, 4], [0, 1, 2, 5], [0, 1, 2, 6],
                                            [0, 1, 2, 5, 7], [0, 1, 2, 6, 8], [0, 1, 2, 5, 6, 7, 8, 9]])

    def test_elders_over_both_parents(self):
        book = Book()
        for parent in (0, 1, 0, 3, 0):
            book.grow(parent, [])
        book.merge(4, 2, {})
        self.assertEqual(book.elders(6), [0, 1, 2, 3, 4, 6])
        book.merge(5, 6, {})
        self.assertEqual(book.elders(7), [0, 1, 2, 3, 4, 5, 6, 7])

    def assert_nearest(self, book, one, other, wanted):
        with self.subTest(one=one, other=other):
            self.assertEqual(book.nearest(one, other), wanted)
            self.assertEqual(book.nearest(other, one), wanted)

    def test_nearest_of_a_version_and_itself(self):
        book = crossed_book()
        for number in range(book.many()):
            self.assert_nearest(book, number, number, number)

    def test_nearest_of_a_version_and_its_elder(self):
        book = crossed_book()
        for number in range(book.many()):
            for elder in elders_of(book, number):
                self.assert_nearest(book, elder, number, elder)

    def test_nearest_of_versions_that_part(self):
        book = crossed_book()
        for one, other, wanted in ((1, 2, 0), (3, 4, 0), (3, 2, 0), (3, 5, 1), (4, 5, 2), (3, 9, 1), (4, 9, 2)):
            self.assert_nearest(book, one, other, wanted)

    def test_nearest_where_versions_were_merged_crosswise(self):
        book = crossed_book()
        for one, other in ((5, 6), (7, 8), (5, 8), (7, 6)):
            self.assert_nearest(book, one, other, 2)

    def test_a_crosswise_merge_takes_the_greatest_common_elder(self):
        book = Book()
        book.grow(0, put("p", "1"))
        book.grow(0, put("p", "2"))
        book.merge(1, 2, {"p": "1"})
        book.merge(1, 2, {"p": "2"})
        # Upon version 2 the one alone changed p, upon version 1 the other alone did.
        for one, other in ((3, 4), (4, 3)):
            self.assertEqual(book.tree(book.merge(one, other, {})), {"p": "1"})

    def test_version_0_is_an_elder_of_all(self):
        book = crossed_book()
        for number in range(book.many()):
            self.assertEqual(book.elders(number)[0], 0)
            self.assert_nearest(book, 0, number, 0)


class TestMergeOfElders(BookCase):
    def test_a_merge_with_an_elder_gives_the_younger_ones_tree(self):
        book = crossed_book()
        for number in range(1, 10):
            for elder in elders_of(book, number)[:-1]:
                for one, other in ((elder, number), (number, elder)):
                    made = book.merge(one, other, {})
                    self.assertEqual(book.tree(made), book.tree(number))
                    self.assertEqual(book.parents(made), (elder, number))

    def test_a_younger_one_that_cut_all(self):
        book = Book()
        book.grow(0, put("a", "1"))
        book.grow(1, cut("a"))
        self.assertEqual(book.tree(book.merge(1, 2, {})), {})
        self.assertEqual(book.tree(book.merge(2, 1, {})), {})

    def test_picks_are_refused_there(self):
        book = Book()
        book.grow(0, put("a", "1"))
        book.grow(1, put("a", "2"))
        for path in ("a", "b", "a//b"):
            for text in ("2", None):
                self.assert_left(NoClash, book, book.merge, 1, 2, {path: text})
                self.assert_left(NoClash, book, book.merge, 2, 1, {path: text})

    def test_a_version_merged_with_itself(self):
        book = crossed_book()
        for number in range(book.many()):
            for picks in ({}, {"a": "1"}, {"a": None}, {"n": "x"}, {"a//b": "x"}, {"": None}):
                self.assert_left(SameVersion, book, book.merge, number, number, picks)
        self.assertEqual(book.merge(0, 1, {}), 10)


class TestRoad(BookCase):
    def test_a_version_to_itself(self):
        book = crossed_book()
        for number in range(book.many()):
            self.assertEqual(self.answer(book.road, number, number), [number])

    def test_a_single_road(self):
        book = crossed_book()
        for elder, number, wanted in ((0, 1, [0, 1]), (0, 2, [0, 2]), (0, 3, [0, 1, 3]), (1, 3, [1, 3]),
                                      (1, 5, [1, 5]), (2, 5, [2, 5]), (1, 7, [1, 5, 7]), (5, 9, [5, 7, 9]),
                                      (6, 9, [6, 8, 9]), (7, 9, [7, 9])):
            with self.subTest(elder=elder, number=number):
                self.assertEqual(self.answer(book.road, elder, number), wanted)

    def test_several_roads(self):
        book = crossed_book()
        for elder, number in ((0, 5), (0, 6), (0, 7), (0, 9), (1, 9), (2, 9)):
            self.assert_road(book, elder, number)

    def test_a_short_way_beside_a_long_one(self):
        book = Book()
        for parent in (0, 1, 2):
            book.grow(parent, [])
        for one, other in ((0, 3), (3, 0), (1, 3), (0, 4)):
            self.assert_road(book, 0, book.merge(one, other, {}))

    def test_none_where_there_is_no_road(self):
        book = crossed_book()
        for elder, number in ((1, 0), (1, 2), (2, 1), (3, 9), (4, 9), (3, 5), (5, 6), (6, 5), (5, 8), (9, 8), (9, 0)):
            with self.subTest(elder=elder, number=number):
                self.assertIsNone(book.road(elder, number))

    def test_all_roads_go_by_parents(self):
        book = crossed_book()
        for number in range(book.many()):
            for elder in range(book.many()):
                if elder in elders_of(book, number):
                    self.assert_road(book, elder, number)
                else:
                    self.assertIsNone(book.road(elder, number))


class TestStory(BookCase):
    def assert_story(self, book, number, path, wanted):
        with self.subTest(number=number, path=path):
            found = self.answer(book.story, number, path)
            self.assertIsInstance(found, list)
            self.assertEqual(found, wanted)

    def test_put_cut_and_put_again(self):
        book = Book()
        for deeds in (put("a", "1"), put("a", "1"), put("b"), put("a", "2"), put("a", ""), cut("a"), cut("b"),
                      put("a", ""), put("a", "1"), []):
            book.grow(book.many() - 1, deeds)
        wanted = [1, 4, 5, 6, 8, 9]
        for number in range(11):
            self.assert_story(book, number, "a", [at for at in wanted if at <= number])
        self.assert_story(book, 10, "b", [3, 7])

    def test_a_row_that_ends_where_it_began(self):
        book = Book()
        book.grow(0, put("a", "1") + cut("a"))
        book.grow(1, put("a", "1"))
        book.grow(2, cut("a") + put("a", "1"))
        self.assert_story(book, 3, "a", [2])

    def test_versions_that_are_no_elders_are_not_told(self):
        book = Book()
        book.grow(0, put("a", "1"))
        book.grow(1, put("a", "2"))
        book.grow(1, put("a", "3"))
        self.assert_story(book, 2, "a", [1, 2])
        self.assert_story(book, 3, "a", [1, 3])
        self.assert_story(book, 0, "a", [])

    def test_a_merge_that_takes_either_side_changes_nothing(self):
        for pick in ("1", "2"):
            book = Book()
            book.grow(0, put("a", "1"))
            book.grow(0, put("a", "2"))
            book.merge(1, 2, {"a": pick})
            self.assert_story(book, 3, "a", [1, 2])

    def test_a_merge_that_takes_neither_side_is_told(self):
        for pick in ("3", "", None):
            book = Book()
            book.grow(0, put("a", "1"))
            book.grow(0, put("a", "2"))
            book.merge(2, 1, {"a": pick})
            book.grow(3, [])
            self.assert_story(book, 4, "a", [1, 2, 3])

    def test_a_merge_with_one_side_or_both_changed(self):
        book = Book()
        book.grow(0, put("a", "0") + put("b", "0") + put("c", "0"))
        book.grow(1, put("a", "1") + put("c", "1"))
        book.grow(1, put("b", "1") + put("c", "1"))
        book.merge(2, 3, {})
        self.assert_story(book, 4, "a", [1, 2])
        self.assert_story(book, 4, "b", [1, 3])
        self.assert_story(book, 4, "c", [1, 2, 3])

    def test_a_merge_of_a_pair(self):
        book = Book()
        book.grow(0, put("a", "1"))
        book.grow(0, put("a/b", "2"))
        book.merge(1, 2, {"a": "new", "a/b": None})
        book.merge(1, 2, {"a": None, "a/b": None})
        self.assert_story(book, 3, "a", [1, 3])
        self.assert_story(book, 3, "a/b", [2])
        self.assert_story(book, 4, "a", [1])
        self.assert_story(book, 4, "a/b", [2])

    def test_folders_have_no_story(self):
        book = Book()
        book.grow(0, put("a/b", "1"))
        self.assert_story(book, 1, "a", [])
        self.assert_story(book, 1, "a/b", [1])

    def test_texts_that_are_no_paths_and_paths_that_never_stood(self):
        book = crossed_book()
        for number in range(book.many()):
            for path in NO_PATHS + ("n", "a/b", "A", "aa"):
                self.assert_story(book, number, path, [])


class TestNoVersion(BookCase):
    """Point 18: each place of a number, with every number that is none of the book's versions."""

    def bad_numbers(self, book):
        many = book.many()
        return (many, many + 1, many + 1000, *GREAT, *BELOW, -many, -many - 1, True, False)

    def test_each_method_and_place(self):
        for book in (Book(), crossed_book()):
            before = whole(book)
            good = book.many() - 1
            for bad in self.bad_numbers(book):
                for action in (book.tree, book.parents, book.elders):
                    self.assert_refused(NoVersion, action, bad)
                for action in (book.nearest, book.road):
                    for pair in ((bad, good), (good, bad), (bad, bad), (bad, 0), (0, bad)):
                        self.assert_refused(NoVersion, action, *pair)
                for pair in ((bad, good), (good, bad), (bad, bad), (bad, 0), (0, bad)):
                    self.assert_refused(NoVersion, book.merge, *pair, {})
                self.assert_refused(NoVersion, book.grow, bad, [])
                self.assert_refused(NoVersion, book.story, bad, "a")
                self.assertEqual(whole(book), before)

    def test_it_goes_ahead_of_all_else(self):
        book = crossed_book()
        before = whole(book)
        for bad in self.bad_numbers(book):
            for path in NO_PATHS:
                self.assert_refused(NoVersion, book.story, bad, path)
                self.assert_refused(NoVersion, book.grow, bad, put(path))
                for pair in ((bad, 1), (1, bad), (bad, bad)):
                    self.assert_refused(NoVersion, book.merge, *pair, {path: "x"})
            for deeds in (cut("n"), put("a") + put("a/b"), put("a/b") + put("a"), cut("a/")):
                self.assert_refused(NoVersion, book.grow, bad, deeds)
        self.assertEqual(whole(book), before)

    def test_true_and_false_are_no_numbers_even_where_1_and_0_are(self):
        book = crossed_book()
        self.assert_refused(NoVersion, book.merge, True, 1, {})
        self.assert_refused(NoVersion, book.merge, 1, True, {})
        self.assert_refused(NoVersion, book.merge, False, 0, {})
        self.assert_refused(NoVersion, book.road, False, 1)
        self.assert_refused(NoVersion, book.road, 0, True)
        self.assert_refused(NoVersion, book.nearest, 0, False)

    def test_a_refused_number_is_answered_once_its_version_is_there(self):
        book = Book()
        for number in range(1, 5):
            for action in (book.tree, book.parents, book.elders):
                self.assert_refused(NoVersion, action, number)
            self.assert_refused(NoVersion, book.grow, number, [])
            self.assert_refused(NoVersion, book.merge, number, 0, {})
            self.assert_refused(NoVersion, book.road, 0, number)
            self.assert_refused(NoVersion, book.story, number, "a")
            self.assertEqual(book.grow(number - 1, put("a", str(number))), number)
            self.assertEqual(book.tree(number), {"a": str(number)})
            self.assertEqual(book.parents(number), (number - 1,))
            self.assertEqual(book.elders(number), list(range(number + 1)))
            self.assertEqual(book.road(0, number), list(range(number + 1)))
            self.assertEqual(book.story(number, "a"), list(range(1, number + 1)))

    def test_numbers_that_python_refuses_to_write_out(self):
        book = Book()
        for bad in (10 ** 5000, -10 ** 5000):
            for action, given in ((book.tree, ()), (book.parents, ()), (book.elders, ()), (book.nearest, (0,)),
                                  (book.road, (0,)), (book.story, ("a",)), (book.grow, ([],)), (book.merge, (0, {}))):
                with self.assertRaises(NoVersion):
                    action(bad, *given)
        self.assertEqual(book.many(), 1)

    def test_the_other_refusals_hold_with_good_numbers(self):
        book = crossed_book()
        self.assert_left(NoPath, book, book.grow, 9, put("a//b"))
        self.assert_left(SameVersion, book, book.merge, 1, 1, {"a//b": "x"})


class TestOwn(BookCase):
    """Point 1: what is handed in or given back is no part of the book."""

    def test_trees_given_back(self):
        book = crossed_book()
        before = whole(book)
        for number in range(book.many()):
            first = book.tree(number)
            self.assertIsNot(first, book.tree(number))
            first["more"] = "more"
            for path in list(first)[:1]:
                first[path] = "changed"
            book.tree(number).clear()
            self.assertEqual(whole(book), before)

    def test_lists_given_back(self):
        book = crossed_book()
        before = whole(book)
        for number in range(book.many()):
            for action, given in ((book.elders, (number,)), (book.road, (0, number)), (book.story, (number, "a"))):
                kept = action(*given)
                mine = action(*given)
                self.assertIsNot(mine, kept)
                mine.append(99)
                mine[0] = 77
                self.assertEqual(action(*given), kept)
                self.assertEqual(whole(book), before)

    def test_deeds_handed_in(self):
        book = Book()
        deeds = put("a", "1") + put("b", "2")
        kept = copy.deepcopy(deeds)
        book.grow(0, deeds)
        self.assertEqual(deeds, kept)
        deeds.append(("cut", "a"))
        deeds[0] = ("put", "z", "9")
        self.assertEqual(book.tree(1), {"a": "1", "b": "2"})
        deeds.clear()
        book.grow(1, deeds)
        deeds.extend(put("c", "3"))
        self.assertEqual(book.tree(2), {"a": "1", "b": "2"})

    def test_picks_handed_in(self):
        book = Book()
        book.grow(0, put("a", "1") + put("p", "1"))
        book.grow(0, put("a/b", "2") + put("p", "2"))
        picks = {"a": None, "p": "3"}
        book.merge(1, 2, picks)
        self.assertEqual(picks, {"a": None, "p": "3"})
        picks["p"] = "4"
        picks["a/b"] = None
        self.assertEqual(book.tree(3), {"a/b": "2", "p": "3"})

    def test_a_version_upon_a_tree_that_was_changed_by_the_asker(self):
        book = Book()
        book.grow(0, put("a", "1"))
        book.tree(1)["b"] = "2"
        book.tree(0)["z"] = "9"
        self.assertEqual(book.tree(book.grow(1, put("c", "3"))), {"a": "1", "c": "3"})
        self.assertEqual(book.tree(book.grow(0, [])), {})

    def test_versions_without_deeds_do_not_share_a_tree(self):
        book = Book()
        book.grow(0, put("a", "1"))
        book.grow(1, [])
        book.merge(1, 2, {})
        book.grow(2, cut("a"))
        self.assertEqual([book.tree(at) for at in range(5)], [{}] + [{"a": "1"}] * 3 + [{}])


class TestManyVersions(BookCase):
    def test_a_long_row(self):
        book = Book()
        for number in range(1, 251):
            self.assertEqual(book.grow(number - 1, put("a" if number % 2 else "b", str(number))), number)
        self.assertEqual(book.elders(250), list(range(251)))
        self.assertEqual(book.road(0, 250), list(range(251)))
        self.assertEqual(book.road(100, 250), list(range(100, 251)))
        self.assertEqual(book.story(250, "a"), list(range(1, 251, 2)))
        self.assertEqual(book.nearest(120, 250), 120)
        self.assertEqual(book.tree(250), {"a": "249", "b": "250"})
        self.assertEqual(book.tree(120), {"a": "119", "b": "120"})

    def test_versions_that_are_merged_crosswise_again_and_again(self):
        book = Book()
        book.grow(0, put("a", "1"))
        book.grow(0, put("b", "1"))
        for number in range(3, 203, 2):
            book.merge(number - 2, number - 1, {})
            book.merge(number - 1, number - 2, {})
        self.assertEqual(book.many(), 203)
        self.assertEqual(book.elders(202), list(range(201)) + [202])
        self.assertEqual(book.nearest(201, 202), 200)
        self.assert_road(book, 0, 202)
        self.assert_road(book, 1, 201)
        self.assertIsNone(book.road(201, 202))
        self.assertEqual(book.story(202, "a"), [1])
        self.assertEqual(book.tree(202), {"a": "1", "b": "1"})

    def test_many_files_in_many_versions(self):
        files = many_files(200)
        paths = list(files)
        book = Book()
        book.grow(0, [("put", path, files[path]) for path in paths])
        for at in range(1, 100):
            book.grow(at, put(paths[at], "changed") + cut(paths[at + 100]))
        side = book.grow(1, put(paths[100], "side"))
        for at in range(101, 200):
            book.grow(at, put("side/" + str(at), ""))
        self.assertEqual(book.many(), 201)
        self.assertEqual(book.tree(1), files)
        made = book.merge(100, 200, {})
        wanted = dict(files)
        for at in range(1, 100):
            wanted[paths[at]] = "changed"
            del wanted[paths[at + 100]]
            wanted["side/" + str(at + 100)] = ""
        wanted[paths[100]] = "side"
        self.assertEqual(book.tree(made), wanted)
        self.assertEqual(book.nearest(100, 200), 1)
        self.assertEqual(book.story(made, paths[100]), [1, side])
        self.assertEqual(book.story(made, paths[150]), [1, 51])


class TestBookAtRandom(BookCase):
    """A book of some two hundred versions beside a plain record of what was asked for."""

    paths = ("a", "a/b", "a/b/c", "b", "b/c", "c.d", "e")

    def some_deeds(self, dice):
        deeds = []
        for _ in range(dice.randrange(4)):
            path = dice.choice(self.paths + ("a//b",) * (dice.random() < 0.1))
            deeds.append(("cut", path) if dice.random() < 0.4 else ("put", path, dice.choice(("", "x", "y"))))
        return deeds

    def some_picks(self, dice, three):
        picks = {}
        for clash in clashes(*three):
            picks[clash[-1]] = dice.choice((None, "", "x", "z")) if len(clash) == 1 else None
        if dice.random() < 0.2:
            picks[dice.choice(self.paths)] = None
        return picks

    def told(self, action, *given):
        """What a call gives, or the class by which it is refused."""
        try:
            return action(*given)
        except RoadError as refused:
            return type(refused)

    def step(self, dice, book, trees, parents):
        many = len(trees)
        one, other = dice.randrange(max(0, many - 12), many), dice.randrange(max(0, many - 12), many)
        if dice.random() < 0.4 and one != other:
            common = set(elders_of(book, one)) & set(elders_of(book, other))
            three = (trees[max(common)], trees[one], trees[other])
            picks = self.some_picks(dice, three)
            wanted = self.told(joined, *three, picks)
            found, line = self.told(book.merge, one, other, picks), (min(one, other), max(one, other))
        else:
            deeds = self.some_deeds(dice)
            wanted = self.told(changed, trees[one], deeds)
            found, line = self.told(book.grow, one, deeds), (one,)
        if isinstance(wanted, dict):
            self.assertEqual(found, many)
            trees.append(wanted)
            parents.append(line)
        else:
            self.assertIs(found, wanted)

    def assert_as_recorded(self, book, trees, parents):
        self.assertEqual(book.many(), len(trees))
        for number in range(len(trees)):
            self.assertEqual(book.tree(number), trees[number])
            self.assertEqual(book.parents(number), parents[number])

    def test_many_steps(self):
        dice = random.Random(20)
        book, trees, parents = Book(), [{}], [()]
        while len(trees) < 200:
            self.step(dice, book, trees, parents)
            self.assertEqual(book.many(), len(trees))
        self.assert_as_recorded(book, trees, parents)
        self.assertGreater(len([line for line in parents if len(line) == 2]), 20)
        for number in range(0, 200, 7):
            self.assert_tells(book, trees, parents, number)
        self.assert_as_recorded(book, trees, parents)

    def assert_tells(self, book, trees, parents, number):
        elders = elders_of(book, number)
        self.assertEqual(book.elders(number), elders)
        for other in range(0, 200, 3):
            common = set(elders) & set(elders_of(book, other))
            self.assertEqual(book.nearest(number, other), max(common))
            if other in elders:
                self.assert_road(book, other, number)
            else:
                self.assertIsNone(book.road(other, number))
        for path in self.paths:
            wanted = [at for at in elders if parents[at]
                      and trees[at].get(path) not in [trees[above].get(path) for above in parents[at]]]
            self.assertEqual(book.story(number, path), wanted)


if __name__ == "__main__":
    unittest.main()
