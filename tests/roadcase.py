"""What several test files share: how a refusal is looked at, and many files at once."""

import copy
import unittest

from threeroad import errors

KINDS = (errors.NoPath, errors.NoFile, errors.InTheWay, errors.NoClash, errors.Clashed,
         errors.NoVersion, errors.SameVersion)
NO_PATHS = ("", "/", "/a", "a/", "a//b", ".", "..", "a/..", "./a", "a b", "a,b", "~", "a/b/c/d/e/f/g/h/i",
            "thirteen-sign", "a/thirteen-sign", "a\n", "\ta")


class RoadCase(unittest.TestCase):
    def assert_refused(self, kind, action, *given):
        """The call is refused as this kind and no other one, and leaves what it was handed."""
        before = repr(given)
        with self.assertRaises(ValueError) as caught:
            action(*given)
        refused = caught.exception
        self.assertIsInstance(refused, errors.RoadError)
        taken = [one.__name__ for one in KINDS if isinstance(refused, one)]
        self.assertEqual(taken, [kind.__name__])
        self.assertEqual(repr(given), before)

    def answer(self, action, *given):
        """What a call gives, which must leave what it was handed and give a new list or dict each time."""
        before = repr(given)
        kept = action(*copy.deepcopy(given))
        first = action(*given)
        second = action(*given)
        self.assertEqual(repr(given), before)
        self.assertEqual(first, second)
        self.assertEqual(first, kept)
        self.assertIsNot(first, second)
        for value in given:
            self.assertIsNot(first, value)
        first.clear()
        self.assertEqual(second, kept)
        self.assertEqual(repr(given), before)
        self.assertEqual(action(*given), kept)
        return second


def many_files(many):
    """A tree of that many files, in folders of several depths."""
    files = {}
    for at in range(many):
        folder = "/".join(["dir-" + str(at // size) for size in (49, 7)][: at % 3])
        name = "file." + str(at)
        files[folder + "/" + name if folder else name] = "text " + str(at)
    return files


def all_trees(paths, texts):
    """Every tree that has none but these paths and texts, by the words of point 4."""
    trees = [{}]
    for path in paths:
        trees += [{**tree, path: text} for tree in trees for text in texts]
    return [tree for tree in trees if not beneath_one_another(tree)]


def beneath_one_another(files):
    """Whether a file lies beneath another one, told by parts."""
    rows = [path.split("/") for path in files]
    return any(len(low) > len(high) and low[: len(high)] == high for low in rows for high in rows)
