"""Forests: where each thing lies, on the floor or in a room of another thing."""

from nestsay.checks import check_thing, has_room, is_pair
from nestsay.errors import BadForest, BadPlace, Refused, Ring, Within
from nestsay.rooms import made_rooms


def made_forest(rooms, forest):
    """The forest, if it is one of these rooms."""
    made_rooms(rooms)
    if not isinstance(forest, tuple) or len(forest) != len(rooms):
        raise BadForest(-1)
    for x, place in enumerate(forest):
        if not _may_have(rooms, x, place):
            raise BadForest(x)
    for x in range(len(forest)):
        if _within_itself(forest, x):
            raise Ring(x)
    return forest


def is_forest(rooms, forest):
    """Whether made_forest returns it."""
    try:
        made_forest(rooms, forest)
    except Refused:
        return False
    return True


def around_of(rooms, forest, x):
    """The things around x, from its holder outward."""
    made_forest(rooms, forest)
    check_thing(rooms, x)
    found = []
    place = forest[x]
    while place is not None:
        found.append(place[0])
        place = forest[place[0]]
    return tuple(found)


def beneath(rooms, forest, x):
    """The things beneath x, ascending."""
    made_forest(rooms, forest)
    check_thing(rooms, x)
    return tuple([y for y in range(len(forest)) if room_within(forest, y, x) is not None])


def hung(rooms, forest, x, place):
    """The forest in which x has that place and all others keep theirs."""
    made_forest(rooms, forest)
    check_thing(rooms, x)
    if not _may_have(rooms, x, place):
        raise BadPlace(place)
    if place is not None and room_within(forest, place[0], x) is not None:
        raise Within(place[0])
    return put(forest, x, place)


def put(forest, x, place):
    """The same as hung, of what it would not refuse."""
    return forest[:x] + (place,) + forest[x + 1:]


def put_all(forest, hangs):
    """The forest behind all the hangs, done in their order."""
    for x, place in hangs:
        forest = put(forest, x, place)
    return forest


def by_depth(forest):
    """All things, those of lesser depth first, of equal depth the lesser first."""
    return tuple(sorted(range(len(forest)), key=lambda x: (_depth(forest, x), x)))


def room_within(forest, x, y):
    """The room of y in which x lies, however deep; None if x is not within y."""
    place = forest[x]
    while place is not None and place[0] != y:
        place = forest[place[0]]
    return None if place is None else place[1]


def _depth(forest, x):
    depth = 0
    while forest[x] is not None:
        x = forest[x][0]
        depth = depth + 1
    return depth


def _may_have(rooms, x, place):
    """Whether it is the floor, or a room of a thing other than x."""
    if place is None:
        return True
    return is_pair(place) and has_room(rooms, place[0], place[1]) and place[0] != x


def _within_itself(forest, x):
    place = forest[x]
    # No ring has more steps than there are things. Without this bound a way
    # into a ring in which x does not stand would never end.
    for _ in forest:
        if place is None:
            return False
        if place[0] == x:
            return True
        place = forest[place[0]]
    return False
