"""Books: versions of a tree, each with the versions that it was made of."""

from threeroad.errors import NoVersion, SameVersion
from threeroad.joining import joined
from threeroad.trees import changed


class Book:
    """Versions that part and join; version 0 has the empty tree and no parents.

    A version's parents have smaller numbers than the version itself.
    """

    def __init__(self):
        self._trees = [{}]
        self._parents = [()]

    def _check(self, number):
        """Refuse a number that is none of the versions'."""
        # True and False would be taken for 1 and 0. The refusal does not tell
        # the number, for Python refuses to write out very great ones.
        if isinstance(number, bool) or not 0 <= number < len(self._trees):
            raise NoVersion("no such version")

    def _keep(self, parents, files):
        """Keep a new version; give its number."""
        self._trees.append(files)
        self._parents.append(parents)
        return len(self._trees) - 1

    def _has_changed(self, number, path):
        """Tell whether a version has parents, and at a path something else than each of them."""
        parents = self._parents[number]
        text = self._trees[number].get(path)
        return len(parents) > 0 and all([self._trees[parent].get(path) != text for parent in parents])

    def many(self):
        """Tell how many versions there are."""
        return len(self._trees)

    def tree(self, number):
        """Give a version's tree."""
        self._check(number)
        return dict(self._trees[number])

    def parents(self, number):
        """Give the numbers of a version's parents, rising."""
        self._check(number)
        return self._parents[number]

    def grow(self, parent, deeds):
        """Make a version of a parent and a row of deeds; give its number."""
        self._check(parent)
        return self._keep((parent,), changed(self._trees[parent], deeds))

    def merge(self, one, other, picks):
        """Make a version by joining two versions; give its number."""
        self._check(one)
        self._check(other)
        if one == other:
            raise SameVersion("a version cannot be joined with itself")
        elder = self.nearest(one, other)
        files = joined(self._trees[elder], self._trees[one], self._trees[other], picks)
        return self._keep((min(one, other), max(one, other)), files)

    def elders(self, number):
        """List the numbers of a version's elders, rising, the version among them."""
        self._check(number)
        found = {number}
        # From the greatest down, each elder is found before its own parents are asked for.
        for at in reversed(range(number + 1)):
            if at in found:
                for parent in self._parents[at]:
                    found.add(parent)
        return sorted(found)

    def nearest(self, one, other):
        """Tell the nearest common elder of two versions."""
        return sorted(set(self.elders(one)) & set(self.elders(other)))[-1]

    def road(self, elder, number):
        """List the versions on a way from an elder to a version; None where there is no way."""
        self._check(elder)
        self._check(number)
        back = {}
        for at in range(elder + 1, number + 1):
            for parent in self._parents[at]:
                if parent == elder or parent in back:
                    back[at] = parent
        if number != elder and number not in back:
            return None
        road = [number]
        while road[-1] != elder:
            road.append(back[road[-1]])
        return road[::-1]

    def story(self, number, path):
        """List the elders of a version that changed a path, rising."""
        return [at for at in self.elders(number) if self._has_changed(at, path)]
