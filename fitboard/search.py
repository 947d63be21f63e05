"""The search for the newest choice, which shows by lines why nothing newer fits, or nothing at all.

One open part after another gets a version. Where a part has no version left, a
line is put down against the picks that are to blame for it, and the search goes
back to the last of these. A line once put down is kept to: where all its picks
but one are picked, that one is dead from then on.
"""

from fitboard.board import Board, clashes
from fitboard.chart import Chart, count_picks
from fitboard.ledger import Ledger


def worked_out(shelf, start):
    """The newest choice for the start, or None where there is none, and lines that show it, a pair."""
    search = Search(Chart(Board(shelf, start)))
    stand = search.opening()
    while stand is not None and stand.wanted:
        search.forks.append(Fork(search.next_part(stand), stand))
        stand = search.go_on()
    if stand is None:
        return (None, search.ledger.told())
    search.show_newest(stand.picked)
    return (search.chart.listed(stand.picked), search.ledger.told())


class Stand:
    """How things stand after some picks."""

    def __init__(self, picked, dead, wanted):
        """Takes the mask of the picks, the mask of those that are barred beside them, and who needs each open part."""
        self.picked = picked
        self.dead = dead
        self.wanted = wanted


class Fork:
    """An open part for which a version is picked, and how things stand ahead of that pick."""

    def __init__(self, part, stand):
        self.part = part
        self.stand = stand
        self.bit = 0


class Search:
    """The forks that lead to where the search has come, and the lines put down on the way."""

    def __init__(self, chart):
        self.chart = chart
        self.ledger = Ledger(chart)
        self.forks = []

    def opening(self):
        """How things stand ahead of every pick."""
        dead = self.chart.foes[None]
        for pick in self.chart.foes:
            # A version whose own need it doesn't meet can't be picked at all.
            dead |= self.chart.foes[pick] & self.chart.bits[pick]
        return Stand(0, dead, self.wanted_by({}, None, 0))

    def wanted_by(self, wanted, who, picked):
        """Who needs each open part, with the needs of `who` too: of several the one that allows the fewest versions."""
        allowed = self.chart.allowed
        grown = dict(wanted)
        for part in allowed[who]:
            if picked & self.chart.of_part.get(part, 0):
                continue
            if part not in grown or count_picks(allowed[who][part]) < count_picks(allowed[grown[part]][part]):
                grown[part] = who
        return grown

    def left(self, stand, part):
        """The mask of the part's versions that are not dead."""
        return self.chart.of_part.get(part, 0) & ~stand.dead

    def next_part(self, stand):
        """The open part to pick a version for."""
        fewest = min(stand.wanted, key=lambda part: count_picks(self.left(stand, part)))
        # The start's parts are wanted ahead of all others. They go first, and in their order, so that their versions
        # are as new as can be; but nothing is lost by a pick that is the only one left.
        first = list(stand.wanted)[0]
        if first in self.chart.allowed[None] and count_picks(self.left(stand, fewest)) > 1:
            return first
        return fewest

    def go_on(self):
        """How things stand after a pick for the last fork, or for one ahead of it; None where no fork is left."""
        while self.forks:
            fork = self.forks[-1]
            left = self.chart.listed(self.left(fork.stand, fork.part))
            if left:
                fork.bit = self.chart.bits[left[-1]]
                return self.stand_behind(fork)
            self.go_back(self.shut(fork, {}))
        return None

    def stand_behind(self, fork):
        """How things stand with the fork's pick."""
        pick = self.chart.by_bit[fork.bit]
        picked = fork.stand.picked | fork.bit
        dead = fork.stand.dead | self.chart.foes[pick] | self.ledger.barred_with(pick, picked)
        wanted = self.wanted_by(fork.stand.wanted, pick, picked)
        wanted.pop(fork.part)
        return Stand(picked, dead, wanted)

    def go_back(self, place):
        """Drop the forks behind the last pick that the line at the place has, and bar this pick there."""
        mask = self.ledger.masks[place]
        while self.forks and not self.forks[-1].bit & mask:
            self.forks.pop()
        if self.forks:
            self.mark_dead(self.forks[-1].bit, place)

    def mark_dead(self, bit, place):
        """Bar the pick of the bit at each fork behind the other picks of the line at the place."""
        others = self.ledger.masks[place] & ~bit
        for stand in [fork.stand for fork in self.forks]:
            if others & ~stand.picked == 0:
                stand.dead |= bit

    def shut(self, fork, known):
        """The place of a line by which the fork's part has no version left.

        `known` tells by bits the places of lines against versions that are not dead at the fork.
        """
        who = fork.stand.wanted[fork.part]
        place = self.place_of_need(who, fork.part)
        need = self.chart.board.needs[who][place]
        mask = self.chart.bits[who]
        below = []
        for version in self.chart.board.meeting(need):
            pick = (fork.part, version)
            bit = self.chart.bits[pick]
            at = known[bit] if bit in known else self.line_against(pick)
            below.append(at)
            mask |= self.ledger.masks[at] & ~bit
        return self.ledger.put_down(mask, ("open", who, place, below))

    def place_of_need(self, who, part):
        """The place of the first need of `who` for the part."""
        return [need[0] for need in self.chart.board.needs[who]].index(part)

    def line_against(self, pick):
        """The place of a line that bars a dead pick, by the earliest picks by which it is dead."""
        bit = self.chart.bits[pick]
        stand = [fork.stand for fork in self.forks if fork.stand.dead & bit][0]
        if self.chart.foes[None] & bit:
            return self.outside(None, pick)
        foes = self.chart.listed(self.chart.foes[pick] & (stand.picked | bit))
        if not foes:
            return self.ledger.place_against(pick, stand.picked)
        if self.chart.shut_out[foes[0]] & bit:
            return self.outside(foes[0], pick)
        return self.outside(pick, foes[0])

    def outside(self, who, pick):
        """The place of a line by which a need of `who` clashes with the pick."""
        needs = self.chart.board.needs[who]
        place = [clashes(need, pick) for need in needs].index(True)
        return self.ledger.put_down(self.chart.bits[who] | self.chart.bits[pick], ("outside", who, place, pick))

    def show_newest(self, picked):
        """Put down the lines against all versions of the start's parts that are newer than those picked."""
        ahead = {}
        mask = 0
        for part in self.chart.allowed[None]:
            ahead[part] = mask
            mask |= self.chart.of_part[part] & picked
        for number, fork in enumerate(self.forks):
            if fork.part in ahead:
                for pick in self.newer_picks(fork):
                    self.show_barred(pick, ahead[fork.part], self.forks[:number])

    def newer_picks(self, fork):
        """The picks that are newer than the fork's and meet the first need of the start for its part."""
        need = self.chart.board.needs[None][self.place_of_need(None, fork.part)]
        picked = self.chart.by_bit[fork.bit][1]
        return [(fork.part, version) for version in self.chart.board.meeting(need) if version > picked]

    def show_barred(self, pick, kept, forks):
        """Put down a line against the pick that has no other picks than those of the mask `kept`."""
        place = self.line_against(pick)
        for fork in reversed(forks):
            # A pick ahead of the start's order was the only one left, so that the line holds without it too.
            if self.ledger.masks[place] & fork.bit & ~kept:
                place = self.shut(fork, {fork.bit: place})
        self.mark_dead(self.chart.bits[pick], place)
