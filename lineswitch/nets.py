"""Nets of places whose ties are switched."""

from lineswitch.boards import is_between, is_light, is_lot, need_board
from lineswitch.errors import NoNet, NoPlace, TooMany
from lineswitch.worst import rising_rows

MOST_PLACES = 8


def is_tie(thing, many):
    """Tell whether a thing may be a tie of a net of so many places."""
    if not isinstance(thing, tuple) or len(thing) != 3:
        return False
    return is_lot(thing[:2], many) and is_light(thing[2])


def is_net(thing):
    """Tell whether a thing is a net."""
    if not isinstance(thing, tuple) or len(thing) != 2:
        return False
    many, ties = thing
    if not is_between(many, 1, MOST_PLACES) or not isinstance(ties, tuple):
        return False
    if not all([is_tie(tie, many) for tie in ties]):
        return False
    return all([ahead[:2] < tie[:2] for ahead, tie in zip(ties, ties[1:])])


def need_net(thing):
    """Refuse what is no net."""
    if not is_net(thing):
        raise NoNet("this is no net")


def net_switched(net, lot):
    """Tell the net that comes of switching a lot of its places."""
    need_net(net)
    many, ties = net
    if not is_lot(lot, many):
        raise NoPlace("this is no lot of the net's places")
    return (many, tuple([
        (a, b, light if (a in lot) == (b in lot) else 1 - light) for a, b, light in ties
    ]))


def lights_of(ties):
    """Tell the light of each tie by its two places, in either order."""
    lights = {}
    for a, b, light in ties:
        lights[(a, b)] = light
        lights[(b, a)] = light
    return lights


def paths_of(many, lights):
    """Tell, for each place, a path of ties to it from the least place of its piece."""
    paths = {}
    for least in range(many):
        waiting = [(least,)]
        while waiting:
            path = waiting.pop()
            end = path[-1]
            # Another path may have come there already, or while this one waited.
            if end not in paths:
                paths[end] = path
                waiting.extend([
                    path + (place,) for place in range(many) if (end, place) in lights
                ])
    return paths


def lit_along(lights, path):
    """Tell how many of the ties along a path are lit."""
    return sum([lights[pair] for pair in zip(path, path[1:])])


def pairs_of(net):
    """Tell which places a net ties."""
    return [tie[:2] for tie in net[1]]


def net_lot(one, other):
    """Tell the lot without any piece's least place that makes the other of the one, or None."""
    need_net(one)
    need_net(other)
    many = one[0]
    if many != other[0] or pairs_of(one) != pairs_of(other):
        return None
    # Along a path from a least place, which stays out, each tie to be turned leads
    # into the lot or out of it.
    turns = lights_of([
        (a, b, (light + tie[2]) % 2) for (a, b, light), tie in zip(one[1], other[1])
    ])
    paths = paths_of(many, turns)
    lot = tuple([place for place in range(many) if lit_along(turns, paths[place]) % 2 == 1])
    return lot if net_switched(one, lot) == other else None


def is_quiet(net):
    """Tell whether a net is alike with one without lit ties."""
    need_net(net)
    many, ties = net
    return net_lot(net, (many, tuple([(a, b, 0) for a, b, light in ties]))) is not None


def is_odd_ring(net, thing):
    """Tell whether a thing is an odd ring of a net."""
    need_net(net)
    many, ties = net
    if not isinstance(thing, tuple) or len(thing) < 3:
        return False
    if not all([is_between(place, 0, many - 1) for place in thing]):
        return False
    if any([thing.count(place) > 1 for place in thing]):
        return False
    lights = lights_of(ties)
    way = thing + thing[:1]
    if not all([pair in lights for pair in zip(way, way[1:])]):
        return False
    return lit_along(lights, way) % 2 == 1


def ring_of(one, other):
    """Tell the ring of two paths from one place whose ends are tied."""
    # Such paths have a beginning in common, and then nothing more.
    shared = len([place for place in one if place in other])
    return one[shared - 1:] + other[shared:][::-1]


def odd_ring(net):
    """Tell the first odd ring found, or None."""
    need_net(net)
    many, ties = net
    lights = lights_of(ties)
    paths = paths_of(many, lights)
    for a, b, light in ties:
        # What the paths have in common counts twice, so it is even.
        if (lit_along(lights, paths[a]) + light + lit_along(lights, paths[b])) % 2 == 1:
            return ring_of(paths[a], paths[b])
    return None


def lit_by_sides(ties, sides):
    """Tell how many ties are lit when the places with side 1 are switched."""
    return sum([(light + sides[a] + sides[b]) % 2 for a, b, light in ties])


def net_left(net):
    """Tell the fewest lit ties that a net alike has."""
    need_net(net)
    many, ties = net
    # Place 0 may stay: all other places do the same as a lot does.
    return min([lit_by_sides(ties, sides) for sides in rising_rows((0,), many - 1)])


def net_of(board):
    """Tell the net of a board, its rows as the first places, its columns behind."""
    need_board(board)
    high = len(board)
    lines = high + len(board[0])
    if lines > MOST_PLACES:
        raise TooMany(lines, MOST_PLACES)
    return (lines, tuple([
        (number, high + column, light)
        for number, row in enumerate(board) for column, light in enumerate(row)
    ]))
