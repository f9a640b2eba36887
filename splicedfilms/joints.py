"""Joints: pieces with which films may be joined anywhere."""

from splicedfilms.checks import check_number, is_film
from splicedfilms.errors import InvalidPiece
from splicedfilms.questions import pieces
from splicedfilms.searches import first_over_bridge
from splicedfilms.states import hopeful, lead


def is_joint(box, piece):
    """Tell whether a piece is a joint."""
    _check_joint(piece)
    return _joins(box.workings().table(), piece)


def _check_joint(piece):
    # A piece that is not empty is what a film is.
    if not is_film(piece):
        raise InvalidPiece(piece)


def _joins(told, piece):
    # From two states of a least table not the same texts lead to an end, so behind a joint there is but one.
    return len(_states_behind(told, piece)) <= 1


def _states_behind(told, piece):
    # All states of a least table are reached, so these are the ones behind the piece in films.
    hopes = {state: True for state in hopeful(told)}
    return sorted({lead(told, state, piece) for state in hopes if lead(told, state, piece) in hopes})


def torn(box, piece):
    """Return the first film x + piece + w that does not come about, while x + piece + y and z + piece + w do.

    If there is none, return `None`.
    """
    _check_joint(piece)
    told = box.workings().table()
    behind = _states_behind(told, piece)
    firsts = [lead(told, state, piece) for state in range(len(told[1]))]
    pairs = [[(first, second) for second in behind] if first in behind else [] for first in firsts]
    return first_over_bridge(told, piece, pairs, (False, True))


def joints(box, length):
    """Return the ascending list of the pieces of a length that stand in some film and are joints."""
    check_number(length, 1)
    return [piece for piece in pieces(box, length) if _joins(box.workings().table(), piece)]


def looks_back(box):
    """Return the least number, from 1 on, so that each piece of so many pictures that stands in some film is a joint.

    If there is no such number, return `None`.
    """
    told = box.workings().table()
    hopes = hopeful(told)
    # A piece is no joint exactly if it leads two states to two unlike ones, all along with films that go on.
    pairs = {(low, high): True for low in hopes for high in hopes if low < high}
    ways = {pair: [after for after in _pairs_behind(told, pair) if after in pairs] for pair in pairs}
    layers = _layers(ways)
    return None if layers is None else max(1, layers)


def _pairs_behind(told, pair):
    _, rows, _ = told
    return [(min(one, other), max(one, other)) for one, other in zip(rows[pair[0]], rows[pair[1]])]


def _layers(ways):
    """Return the number of nodes on the longest way, `None` if a way goes round."""
    sources = {node: [] for node in ways}
    left = {}
    for node, targets in ways.items():
        left[node] = len(targets)
        for target in targets:
            sources[target].append(node)
    # Those from which the longest way is by one node longer are the ones all of whose targets are done just now.
    layer = [node for node in ways if left[node] == 0]
    layers = 0
    done = 0
    while layer:
        layers += 1
        done += len(layer)
        following = []
        for node in layer:
            for source in sources[node]:
                left[source] -= 1
                if left[source] == 0:
                    following.append(source)
        layer = following
    return layers if done == len(ways) else None
