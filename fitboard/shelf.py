"""Shelves and needs: which versions on a shelf meet a need."""

from fitboard.errors import TwiceThere


def check_shelf(shelf):
    """Refuse with TwiceThere a shelf on which one version of a part stands twice."""
    seen = {}
    for part, version, needs in shelf:
        if (part, version) in seen:
            # The version stays out of the words: Python won't write out a very long number.
            raise TwiceThere(f"a version of {part!r} stands twice on the shelf")
        seen[(part, version)] = True


def meets(need, part, version):
    """True where this version of this part meets the need, else False."""
    return part == need[0] and need[1] <= version <= need[2]


def fitting(shelf, need):
    """The versions on the shelf that meet the need, a list, the newest first."""
    check_shelf(shelf)
    met = [version for part, version, needs in shelf if meets(need, part, version)]
    return sorted(met, reverse=True)
