"""Picks as bits of whole numbers, so that many picks are held against many others in one step."""


def count_picks(mask):
    """How many picks the mask stands for."""
    count = 0
    while mask:
        mask &= mask - 1
        count += 1
    return count


class Chart:
    """A board on which each pick has a bit; the sum of some picks' bits, a mask, stands for these picks."""

    def __init__(self, board):
        self.board = board
        self.bits = {None: 0}
        self.by_bit = {}
        self.of_part = {}
        self.give_bits()
        self.allowed = {}
        self.shut_out = {}
        self.foes = {}
        for who in board.needs:
            self.allowed[who] = self.allowed_by(who)
            self.shut_out[who] = self.shut_out_by(who)
            self.foes[who] = self.shut_out[who]
        self.make_foes_mutual()

    def give_bits(self):
        """Give each pick its bit, in the order of Python's tuples, and each part the mask of its picks."""
        bit = 1
        for pick in sorted([pick for pick in self.board.needs if pick is not None]):
            self.bits[pick] = bit
            self.by_bit[bit] = pick
            self.of_part[pick[0]] = self.of_part.get(pick[0], 0) | bit
            bit += bit

    def allowed_by(self, who):
        """By each part that `who` needs, in the order of the needs, the mask of the picks that meet all of them."""
        joint = {}
        for part, low, high in self.board.needs[who]:
            earlier = joint.get(part, (part, low, high))
            joint[part] = (part, max(low, earlier[1]), min(high, earlier[2]))
        allowed = {}
        for part in joint:
            versions = self.board.meeting(joint[part])
            allowed[part] = sum([self.bits[(part, version)] for version in versions])
        return allowed

    def shut_out_by(self, who):
        """The mask of the picks with which a need of `who` clashes."""
        mask = 0
        for part in self.allowed[who]:
            mask |= self.of_part.get(part, 0) & ~self.allowed[who][part]
        return mask

    def make_foes_mutual(self):
        """Let each pick have among its foes those whose needs clash with it too."""
        for who in self.shut_out:
            for pick in self.listed(self.shut_out[who]):
                self.foes[pick] |= self.bits[who]

    def listed(self, mask):
        """The picks that the mask stands for, a list, in the order of Python's tuples."""
        picks = []
        while mask:
            bit = mask & -mask
            picks.append(self.by_bit[bit])
            mask -= bit
        return picks
