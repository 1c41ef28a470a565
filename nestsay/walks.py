"""Walks: deeds that lead from any least form to any other one."""

from nestsay.books import made_book
from nestsay.deeds import forest_after
from nestsay.forests import made_forest, room_within
from nestsay.leastforms import check_least, top_of
from nestsay.links import parts_of
from nestsay.nets import Net, has_bit, without


class Way:
    """The deeds done so far, and the forest to which they lead."""

    def __init__(self, net, forest):
        self.net = net
        self.forest = forest
        self.told = []

    def go(self, deed):
        """Do one more deed."""
        self.forest = forest_after(self.net, self.forest, [deed])
        self.told.append(deed)

    def holder(self, x):
        """The thing in which x lies now, None on the floor."""
        place = self.forest[x]
        return None if place is None else place[0]


def walk(book, one, two):
    """Deeds that lead from the least form one to the least form two."""
    made_book(book)
    made_forest(book[0], one)
    made_forest(book[0], two)
    net = Net(book)
    check_least(net, book, one, 0)
    check_least(net, book, two, 1)
    way = Way(net, one)
    # The part that is led next stands last.
    waiting = [(part, None) for part in reversed(parts_of(net, net.whole))]
    while waiting:
        part, holder = waiting.pop()
        if holder is not None:
            _shift_part(way, two, part, holder)
        x = top_of(two, part)
        _turn_out(way, two, part, x)
        waiting.extend([(each, x) for each in reversed(parts_of(net, without(part, x)))])
    return tuple(way.told)


def _turn_out(way, two, part, x):
    """Turn x with its holders until it is outermost in its part."""
    holder = way.holder(x)
    while holder is not None and has_bit(part, holder):
        way.go(("turn", x, room_within(two, holder, x)))
        holder = way.holder(x)


def _shift_part(way, two, part, holder):
    """Shift the part to the room of its holder in which it lies in two."""
    x = top_of(way.forest, part)
    room = room_within(two, x, holder)
    if way.forest[x] != (holder, room):
        way.go(("shift", x, room))
