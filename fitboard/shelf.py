"""Shelves and needs: which versions on a shelf meet a need."""

from fitboard.board import Board


def fitting(shelf, need):
    """The versions on the shelf that meet the need, a list, the newest first."""
    return Board(shelf, []).meeting(need)
