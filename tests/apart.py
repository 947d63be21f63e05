"""What DOC.md says of picks, lines and choices, written apart from the program, and boards to try it on.

It is written for plainness: small boards alone are searched whole.
"""

import itertools
import random

HUNDRED = 10 ** 100 - 1


def entries(shelf):
    return {(part, version): needs for part, version, needs in shelf}


def is_met(need, version):
    part, low, high = need
    return low <= version and version <= high


def needs_in_order(shelf, start, picks):
    """Point 6: who has each need, its place, and the need."""
    by_pick = entries(shelf)
    told = [(None, place, need) for place, need in enumerate(start)]
    for pick in picks:
        told += [(pick, place, need) for place, need in enumerate(by_pick[pick])]
    return told


def clash_apart(shelf, start, picks):
    for who, place, need in needs_in_order(shelf, start, picks):
        if any(part == need[0] and not is_met(need, version) for part, version in picks):
            return (who, place)
    return None


def open_apart(shelf, start, picks):
    for who, place, need in needs_in_order(shelf, start, picks):
        if not any(part == need[0] for part, version in picks):
            return (who, place)
    return None


def fits_apart(shelf, start, picks):
    """Point 8."""
    if clash_apart(shelf, start, picks) or open_apart(shelf, start, picks):
        return False
    by_pick = entries(shelf)
    good = []
    names = [need[0] for need in start]
    grown = True
    while grown:
        grown = False
        for pick in picks:
            if pick not in good and pick[0] in names:
                good.append(pick)
                names += [need[0] for need in by_pick[pick]]
                grown = True
    return len(good) == len(picks)


def line_follows(shelf, start, lines, at):
    """Points 9 and 10."""
    picks, reason = lines[at]
    kind, who, place, last = reason
    by_pick = entries(shelf)
    if who is None:
        needs = start
    elif who in picks and who in by_pick:
        needs = by_pick[who]
    else:
        return False
    if place not in range(len(needs)):
        return False
    part, low, high = needs[place]
    if kind == "outside":
        return last in picks and last[0] == part and not is_met(needs[place], last[1])
    versions = sorted(v for p, v in by_pick if p == part and is_met(needs[place], v))
    versions.reverse()
    if len(versions) != len(last):
        return False
    for version, below in zip(versions, last):
        if below not in range(at):
            return False
        if not set(lines[below][0]) - {(part, version)} <= set(picks):
            return False
    return True


def first_bad_apart(shelf, start, lines):
    for at in range(len(lines)):
        if not line_follows(shelf, start, lines, at):
            return at
    return None


def choices(shelf, start):
    """All choices, by a walk of everything that might be picked."""
    parts = sorted({part for part, version, needs in shelf})
    columns = [[None] + [(p, v) for p, v, needs in shelf if p == part] for part in parts]
    found = []
    for row in itertools.product(*columns):
        picks = [pick for pick in row if pick is not None]
        if fits_apart(shelf, start, picks):
            found.append(picks)
    return found


def first_named(start):
    """The start's needs whose part no earlier one names."""
    return [need for at, need in enumerate(start) if need[0] not in [other[0] for other in start[:at]]]


def newness(start, choice):
    """The greater of two such lists is that of the newer choice, by point 11."""
    return [dict(choice)[need[0]] for need in first_named(start)]


def missing_line(shelf, start, choice, lines):
    """A newer pick for which the line is missing that point 11 asks for; None where all are there."""
    picked = dict(choice)
    ahead = set()
    sets = [set(picks) for picks, reason in lines]
    for need in first_named(start):
        part = need[0]
        for other, version, needs in shelf:
            if other == part and is_met(need, version) and version > picked[part]:
                if not any(each <= ahead | {(part, version)} for each in sets):
                    return (part, version)
        ahead.add((part, picked[part]))
    return None


def small_board(seed):
    """A shelf and a start of few parts; much of what the document names comes up among a hundred of them."""
    chance = random.Random(seed)
    parts = ["", "lid", "pan", "rim", "top"][:chance.randint(1, 5)]
    named = parts + ["none"] * (chance.random() < 0.15)
    versions = chance.choice([[1, 2, 3], [-1, 0, 1], [0, 1], [-HUNDRED, 0, HUNDRED], [5], [1, 2, 3, 4]])
    loose = chance.random()

    def need():
        low = chance.choice(versions)
        high = chance.choice(versions) if chance.random() > loose else max(versions)
        if high < low and chance.random() < 0.9:
            low, high = high, low
        return (chance.choice(named), low, high)

    most = chance.randint(0, 4)
    shelf = [(part, version, [need() for each in range(chance.randint(0, most))])
             for part in parts for version in versions if chance.random() < 0.9]
    chance.shuffle(shelf)
    return shelf, [need() for each in range(chance.randint(0, 4))]


def some_picks(chance, shelf):
    """Picks of several parts, a version each, in any order."""
    by_part = {}
    for part, version, needs in chance.sample(shelf, len(shelf)):
        by_part[part] = version
    parts = chance.sample(sorted(by_part), chance.randint(0, len(by_part)))
    return [(part, by_part[part]) for part in parts]
