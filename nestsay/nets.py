"""Nets: what a book lets, as bits, so that lots are quickly parted and compared."""

from nestsay.standings import APART


class Net:
    """In each number below, bit x stands for the thing x.

    whole has all things; links[x] has the things that are linked to x;
    holds[t][i] has the things that may lie in room i of t.
    """

    def __init__(self, book):
        rooms, sayings = book
        self.whole = (1 << len(rooms)) - 1
        self.links = [0 for _ in rooms]
        self.holds = [[self.whole & ~(1 << t) for _ in range(many)] for t, many in enumerate(rooms)]
        self.hear(sayings)

    def hear(self, sayings):
        """Take in what the sayings say."""
        for x, y, lets in sayings:
            if APART not in lets:
                self.links[x] = self.links[x] | (1 << y)
                self.links[y] = self.links[y] | (1 << x)
            _shut(self.holds[x], "around", lets, y)
            _shut(self.holds[y], "in", lets, x)

    def also(self, sayings):
        """The net of the book with these sayings behind its own; this one stays as it is."""
        net = Net(((), ()))
        net.whole = self.whole
        net.links = list(self.links)
        net.holds = [list(held) for held in self.holds]
        net.hear(sayings)
        return net


def bits_of(lot):
    """The number that stands for a lot."""
    return sum([1 << x for x in lot])


def lot_of(bits):
    """The lot for which a number stands."""
    return tuple([x for x in range(bits.bit_length()) if has_bit(bits, x)])


def has_bit(bits, x):
    """Whether x is in the lot for which a number stands."""
    return bits >> x & 1 == 1


def without(bits, x):
    """The lot less x."""
    return bits & ~(1 << x)


def least_of(bits):
    """The least thing of a lot that is not empty."""
    return (bits & -bits).bit_length() - 1


def _shut(held, kind, lets, z):
    """Take z out of the rooms that the saying does not let to it."""
    for room in range(len(held)):
        if (kind, room) not in lets:
            held[room] = held[room] & ~(1 << z)
