"""Bringing all trains home by hand."""

from coastersafe.errors import NotFitting, TooLarge
from coastersafe.search import searched

MOST_BLOCKS = 7
# With so few blocks there are far fewer places of trains, whichever trains have been home.
MOST_NODES = 1000000


class HandMoves:
    """The places of trains, with those that have been home, as a space to be searched; a step is a train.

    What is looked for as bad here is that all trains are home.
    """

    def __init__(self, ride):
        self._ride = ride

    def node_of(self, places):
        """The node at the beginning: the places, and for each train whether it has been home."""
        return (places, tuple([self._is_home(place) for place in places]))

    def _is_home(self, place):
        return place == len(self._ride.ways) - 1

    def looked(self, node):
        """The pairs of each train that can be moved, and the node after it."""
        places, home = node
        view = []
        for train in range(len(places)):
            after = _after_move(self._ride, places, train)
            if after is not None:
                is_home = home[train] or self._is_home(after[train])
                view.append((train, (after, _replaced(home, train, is_home))))
        return view

    def bad_step(self, view):
        """The first train with whose move all are home, or None."""
        for train, node in view:
            if all(node[1]):
                return train
        return None

    def steps(self, view):
        """The pairs of each train that can be moved, and the node after it."""
        return view


def _after_move(ride, places, train):
    """The places after a hand move, or None if it cannot be made."""
    if not 0 <= train < len(places):
        return None
    following = (places[train] + 1) % len(ride.ways)
    if following in places:
        return None
    return _replaced(places, train, following)


def _replaced(row, at, what):
    return row[:at] + (what,) + row[at + 1:]


def _check_places(ride, places):
    if len(places) != len(ride.trains) or len(set(places)) != len(places):
        raise NotFitting("the places are not those of the trains in different blocks")
    if not all([0 <= place < len(ride.ways) for place in places]):
        raise NotFitting("there is no such block")


def after_plan(ride, places, plan):
    """The places after hand moves."""
    _check_places(ride, places)
    for train in plan:
        places = _after_move(ride, places, train)
        if places is None:
            raise NotFitting("a hand move cannot be made")
    return places


def is_plan(ride, places, plan):
    """Whether all trains are home after hand moves."""
    _check_places(ride, places)
    moves = HandMoves(ride)
    node = moves.node_of(places)
    for train in plan:
        following = dict(moves.looked(node))
        if train not in following:
            return False
        node = following[train]
    return all(node[1])


def best_plan(ride, places):
    """The least one of the shortest plans."""
    _check_places(ride, places)
    if len(ride.ways) > MOST_BLOCKS:
        raise TooLarge(MOST_BLOCKS)
    moves = HandMoves(ride)
    first = moves.node_of(places)
    if all(first[1]):
        return []
    _, plan = searched(moves, first, MOST_NODES)
    return plan
