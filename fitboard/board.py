"""A shelf and a start, read once, so that needs and versions are found without a walk of the shelf."""

from fitboard.errors import TwiceThere


def clashes(need, pick):
    """True where the pick is of the need's part and doesn't meet the need, else False."""
    return pick[0] == need[0] and not need[1] <= pick[1] <= need[2]


class Board:
    """What each pick needs, and under None the start, and which versions there are of each part."""

    def __init__(self, shelf, start):
        """Refuses with TwiceThere a shelf on which one version of a part stands twice."""
        self.needs = {None: start}
        self.versions = {}
        for part, version, needs in shelf:
            if (part, version) in self.needs:
                # The version stays out of the words: Python won't write out a very long number.
                raise TwiceThere(f"a version of {part!r} stands twice on the shelf")
            self.needs[(part, version)] = needs
            self.versions.setdefault(part, []).append(version)
        for part in list(self.versions):
            self.versions[part] = sorted(self.versions[part], reverse=True)

    def meeting(self, need):
        """The versions on the shelf that meet the need, a list, the newest first."""
        part = need[0]
        return [version for version in self.versions.get(part, []) if not clashes(need, (part, version))]
