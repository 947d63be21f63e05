"""Picks: which needs clash with them or are open, and whether they fit a start."""

from fitboard.board import Board, clashes
from fitboard.errors import NoEntry, TwoVersions


def first_clash(shelf, start, picks):
    """Who has the first need that clashes, and its place, a pair; None where none does."""
    return first_need(checked_board(shelf, start, picks), picks, clashes_with)


def first_open(shelf, start, picks):
    """Who has the first need that is open, and its place, a pair; None where none is."""
    return first_need(checked_board(shelf, start, picks), picks, lacks_pick)


def fits(shelf, start, picks):
    """True where the picks fit the start, else False."""
    board = checked_board(shelf, start, picks)
    for wrong in (clashes_with, lacks_pick):
        if first_need(board, picks, wrong) is not None:
            return False
    return len(named_parts(board, picks)) == len(picks)


def checked_board(shelf, start, picks):
    """The board of the shelf and the start, where neither the shelf nor the picks are refused."""
    board = Board(shelf, start)
    check_picks(board, picks)
    return board


def check_picks(board, picks):
    """Refuse with NoEntry a pick that is not on the shelf, and else with TwoVersions two picks of one part."""
    for pick in picks:
        if pick not in board.needs:
            part = pick[0]
            raise NoEntry(f"a pick of {part!r} is not on the shelf")
    seen = {}
    for part, version in picks:
        if part in seen:
            raise TwoVersions(f"two picks are of {part!r}")
        seen[part] = True


def clashes_with(need, picked):
    """True where the need clashes with what is picked, a dict of versions by part, else False."""
    part = need[0]
    return part in picked and clashes(need, (part, picked[part]))


def lacks_pick(need, picked):
    """True where the need is open beside what is picked, a dict of versions by part, else False."""
    return need[0] not in picked


def first_need(board, picks, wrong):
    """Who has the first need with which `wrong` answers True, and its place, a pair; None where there is none."""
    picked = dict(picks)
    for who in [None] + picks:
        for place, need in enumerate(board.needs[who]):
            if wrong(need, picked):
                return (who, place)
    return None


def named_parts(board, picks):
    """The parts that are named from the start on, as the keys of a dict; none of the needs may be open."""
    picked = dict(picks)
    named = {}
    ahead = list(board.needs[None])
    while ahead:
        part = ahead.pop()[0]
        if part not in named:
            named[part] = True
            ahead.extend(board.needs[(part, picked[part])])
    return named
