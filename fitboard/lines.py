"""Lines: which of them follow, and which picks they bar."""

from fitboard.board import Board, clashes


def first_bad(shelf, start, lines):
    """The place of the first line that doesn't follow, counted from nought; None where all follow."""
    board = Board(shelf, start)
    for place in range(len(lines)):
        if not follows(board, lines, place):
            return place
    return None


def bars(lines, picks):
    """True where all picks of one of the lines are among the picks, else False."""
    among = marked(picks)
    for line in lines:
        if has_all(among, line[0]):
            return True
    return False


def marked(picks):
    """The picks as the keys of a dict, so that one is found among many without a walk."""
    among = {}
    for pick in picks:
        among[pick] = True
    return among


def has_all(among, picks):
    """True where each of the picks is among these, else False."""
    for pick in picks:
        if pick not in among:
            return False
    return True


def follows(board, lines, place):
    """True where the line at the place follows, else False."""
    reason = lines[place][1]
    among = marked(lines[place][0])
    need = need_told(board, among, reason)
    if need is None:
        return False
    if reason[0] == "outside":
        return reason[3] in among and clashes(need, reason[3])
    return leaves_no_version(board, among, need, reason[3], lines, place)


def need_told(board, among, reason):
    """The need that the reason tells, of the start or of a pick among these; None where there is none."""
    who = reason[1]
    place = reason[2]
    if who is not None and who not in among:
        return None
    if who not in board.needs:
        return None
    # A negative place would count from the list's end.
    if place < 0 or place >= len(board.needs[who]):
        return None
    return board.needs[who][place]


def leaves_no_version(board, among, need, below, lines, place):
    """True where the lines below, all ahead of the place, bar each version that meets the need, else False."""
    versions = board.meeting(need)
    if len(below) != len(versions):
        return False
    for version, at in zip(versions, below):
        if at < 0 or at >= place:
            return False
        others = [pick for pick in lines[at][0] if pick != (need[0], version)]
        if not has_all(among, others):
            return False
    return True
