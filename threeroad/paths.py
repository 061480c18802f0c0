"""Paths: which texts are paths, and what lies above and beneath them."""

MOST_PARTS = 8
MOST_SIGNS = 12
# Written out, because isalnum() also takes letters and figures beyond ASCII.
SIGNS = "abcdefghijklmnopqrstuvwxyzABCDEFGHIJKLMNOPQRSTUVWXYZ0123456789.-_"


def is_part(text):
    """Tell whether a text may be one part of a path."""
    if text in (".", ".."):
        return False
    return 1 <= len(text) <= MOST_SIGNS and all([sign in SIGNS for sign in text])


def is_path(text):
    """Tell whether a text is a path."""
    parts = text.split("/")
    return len(parts) <= MOST_PARTS and all([is_part(part) for part in parts])


def above(path):
    """List the folders above a path, the shortest first."""
    parts = path.split("/")
    return ["/".join(parts[:many]) for many in range(1, len(parts))]


def is_beneath(path, upper):
    """Tell whether a path lies beneath another one."""
    # The slash keeps a/bc from lying beneath a/b.
    return path.startswith(upper + "/")
