"""Trees: dicts from paths to texts, and the deeds that lead from one to another."""

from threeroad.errors import InTheWay, NoFile, NoPath
from threeroad.paths import above, is_beneath, is_path


def overlaps(files):
    """List the pairs (upper, lower) of files, the second of which lies beneath the first."""
    return [(upper, path) for path in files for upper in above(path) if upper in files]


def is_tree(files):
    """Tell whether a dict from texts to texts is a tree."""
    return all([is_path(path) for path in files]) and overlaps(files) == []


def is_blocked(tree, path):
    """Tell whether a path lies beneath a file of a tree, or a file of it beneath the path."""
    if any([upper in tree for upper in above(path)]):
        return True
    return any([is_beneath(name, path) for name in tree])


def done(tree, deed):
    """Give the tree behind a deed upon a tree."""
    path = deed[1]
    if not is_path(path):
        raise NoPath(f"no path: {path}")
    files = dict(tree)
    if deed[0] == "cut":
        if path not in files:
            raise NoFile(f"no file: {path}")
        del files[path]
    else:
        if is_blocked(tree, path):
            raise InTheWay(f"a file is in the way of {path}")
        files[path] = deed[2]
    return files


def changed(tree, deeds):
    """Give the tree behind a row of deeds upon a tree."""
    # A row without deeds, too, must give another dict.
    files = dict(tree)
    for deed in deeds:
        files = done(files, deed)
    return files


def between(old, new):
    """List the deeds that lead from an old tree to a new one."""
    # The cuts go first, so that none of the files that go is in the way of a put.
    cuts = [("cut", path) for path in sorted(old) if path not in new]
    puts = [("put", path, new[path]) for path in sorted(new) if old.get(path) != new[path]]
    return cuts + puts
