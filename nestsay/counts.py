"""How many least forms a book has, and their order."""

from nestsay.books import made_book
from nestsay.checks import check_few, is_number
from nestsay.errors import BadNumber
from nestsay.forests import made_forest
from nestsay.free import rooms_over
from nestsay.leastforms import check_least, top_of
from nestsay.links import parts_of
from nestsay.nets import Net, lot_of, without


class Tally:
    """Counts least forms of lots told as bits, each part but once."""

    def __init__(self, net):
        self.net = net
        self.known = {}

    def of_part(self, part):
        """How many least forms the part has."""
        if part not in self.known:
            self.known[part] = sum([self.around(t, part) for t in lot_of(part)])
        return self.known[part]

    def around(self, t, part):
        """How many of them have t outermost."""
        return self.of_lot(without(part, t), t)

    def of_lot(self, lot, holder):
        """How many ways the parts of the lot may lie in the holder, or on the floor if that is None."""
        many = 1
        for part in parts_of(self.net, lot):
            many = many * len(self.places_in(holder, part)) * self.of_part(part)
        return many

    def places_in(self, holder, part):
        """The places at which the outermost thing of the part may lie, in their order."""
        if holder is None:
            return [None]
        return [(holder, room) for room in rooms_over(self.net, holder, part)]


def count(book):
    """How many least forms the book has."""
    made_book(book)
    check_few(book[0])
    net = Net(book)
    return Tally(net).of_lot(net.whole, None)


def nth(book, k):
    """The least form at place k."""
    made_book(book)
    check_few(book[0])
    net = Net(book)
    tally = Tally(net)
    if not is_number(k) or not 0 <= k < tally.of_lot(net.whole, None):
        raise BadNumber(k)
    return _forest_at(tally, k)


def number(book, forest):
    """The place of a least form."""
    made_book(book)
    made_forest(book[0], forest)
    check_few(book[0])
    net = Net(book)
    check_least(net, book, forest, 0)
    return _at_of_lot(Tally(net), forest, net.whole, None)


def _forest_at(tally, k):
    net = tally.net
    forest = [None for _ in net.holds]
    waiting = [(net.whole, None, k)]
    while waiting:
        lot, holder, at = waiting.pop()
        # The first part weighs most in the order, so the last one is told first.
        for part in reversed(parts_of(net, lot)):
            places = tally.places_in(holder, part)
            many = tally.of_part(part)
            at, here = divmod(at, len(places) * many)
            index, inner = divmod(here, many)
            t, inner = _outermost(tally, part, inner)
            forest[t] = places[index]
            waiting.append((without(part, t), t, inner))
    return tuple(forest)


def _outermost(tally, part, at):
    """The outermost thing of the least form at a place of the part, and its place among those with this thing."""
    for t in lot_of(part):
        many = tally.around(t, part)
        if at < many:
            return (t, at)
        at = at - many
    return None


def _at_of_lot(tally, forest, lot, holder):
    at = 0
    for part in parts_of(tally.net, lot):
        places = tally.places_in(holder, part)
        many = tally.of_part(part)
        t = top_of(forest, part)
        at = (at * len(places) + places.index(forest[t])) * many + _at_of_part(tally, forest, part, t)
    return at


def _at_of_part(tally, forest, part, t):
    ahead = sum([tally.around(x, part) for x in lot_of(part) if x < t])
    return ahead + _at_of_lot(tally, forest, without(part, t), t)
