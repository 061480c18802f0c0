"""Joining: what comes of an elder tree and of two that came of it.

At each path stands a text or nothing, which is written None here.
"""

from threeroad.errors import Clashed, NoClash
from threeroad.trees import overlaps


def mark_of(before, left, right):
    """Tell the word for what stands at a path in the three trees, None where all have the same."""
    if left == right:
        return None if left == before else "alike"
    if right == before:
        return "one"
    if left == before:
        return "other"
    return "clash"


def marks(elder, one, other):
    """List the pairs (path, word) of the paths at which not all three trees have the same."""
    found = []
    for path in sorted(set(elder) | set(one) | set(other)):
        word = mark_of(elder.get(path), one.get(path), other.get(path))
        if word is not None:
            found.append((path, word))
    return found


def single_clashes(elder, one, other):
    """List the paths that both sides changed otherwise, rising."""
    return [path for path, word in marks(elder, one, other) if word == "clash"]


def settle(files, path, text):
    """Let a text, or nothing, stand at a path of a dict that is the caller's own."""
    if text is None:
        files.pop(path, None)
    else:
        files[path] = text


def agreed(elder, one, other):
    """Give the files that stand without any pick, paths that clash left out."""
    files = dict(elder)
    for path, word in marks(elder, one, other):
        if word == "clash":
            settle(files, path, None)
        elif word == "other":
            settle(files, path, other.get(path))
        else:
            settle(files, path, one.get(path))
    return files


def clashes(elder, one, other):
    """List the tuples (path,) and (path, lower) at which the two sides clash."""
    singles = [(path,) for path in single_clashes(elder, one, other)]
    return sorted(singles + overlaps(agreed(elder, one, other)))


def joined(elder, one, other, picks):
    """Give the tree that comes of three trees, with a text or None picked for paths that clash."""
    # NoClash goes ahead of Clashed, so all picks are looked at first.
    clashing = [path for clash in clashes(elder, one, other) for path in clash]
    for path in picks:
        if path not in clashing:
            raise NoClash(f"no clash at {path}")
    for path in single_clashes(elder, one, other):
        if path not in picks:
            raise Clashed(f"no pick for {path}")
    files = agreed(elder, one, other)
    for path, text in picks.items():
        settle(files, path, text)
    if overlaps(files) != []:
        raise Clashed("a file would lie beneath another one")
    return files
