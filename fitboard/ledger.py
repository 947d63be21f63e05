"""The lines that a search has put down so far."""


class Ledger:
    """Lines, each with its picks as a mask of the chart; no two of them have the same picks."""

    def __init__(self, chart):
        self.chart = chart
        self.masks = []
        self.reasons = []
        self.place_by_mask = {}
        self.places_by_pick = {}

    def put_down(self, mask, reason):
        """The place of the line with these picks, which is put down with the reason if there is none yet."""
        if mask not in self.place_by_mask:
            place = len(self.masks)
            self.masks.append(mask)
            self.reasons.append(reason)
            self.place_by_mask[mask] = place
            for pick in self.chart.listed(mask):
                self.places_by_pick.setdefault(pick, []).append(place)
        return self.place_by_mask[mask]

    def place_against(self, pick, picked):
        """The place of a line that has the pick, and no other picks than those picked; None where there is none."""
        for place in self.places_by_pick.get(pick, []):
            if self.masks[place] & ~picked == self.chart.bits[pick]:
                return place
        return None

    def barred_with(self, pick, picked):
        """The mask of the picks that a line with this pick bars, beside those picked."""
        barred = 0
        for place in self.places_by_pick.get(pick, []):
            rest = self.masks[place] & ~picked
            # Only a number of no more than one bit has none in common with the number below it.
            if rest & (rest - 1) == 0:
                barred |= rest
        return barred

    def told(self):
        """The lines as they are told, a list."""
        return [(self.chart.listed(mask), reason) for mask, reason in zip(self.masks, self.reasons)]
