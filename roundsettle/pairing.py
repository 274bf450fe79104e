"""The next round: who may meet, a round in which all play, or a bar that there is none."""

from itertools import combinations

from roundsettle.errors import Undefined
from roundsettle.kinds import are_numbers, are_pairs, plain
from roundsettle.tours import met_pairs, players_there, resting


def pairs_in(tour, r):
    """The pairs of those who are there in round r that are not barred and meet in no round."""
    gone = met_pairs(tour) + list(tour.barred)
    here = players_there(tour, r)
    return tuple([(a, b) for a in here for b in here if a < b and (a, b) not in gone])


def resters_in(tour, r):
    """Those who are there in round r and rest in none of the rounds."""
    rested = [player for played in range(len(tour.rounds)) for player in resting(tour, played)]
    return tuple([player for player in players_there(tour, r) if player not in rested])


def may_meet(tour):
    """The pairs that may meet in the next round, ascending."""
    return pairs_in(tour, len(tour.rounds))


def may_rest(tour):
    """The players that may rest in the next round, ascending."""
    return resters_in(tour, len(tour.rounds))


def full_rounds(here, pairs, resters):
    """All full rounds of those who are here, ascending, so that the first one stands ahead.

    here is an ascending list, pairs are those that may meet, resters those who may rest.
    """
    if not here:
        return [()]
    one = here[0]
    others = here[1:]
    found = []
    for other in others:
        if (one, other) in pairs:
            left = [player for player in others if player != other]
            found.extend([((one, other),) + rest for rest in full_rounds(left, pairs, resters)])
    # Behind a rest those who are left are even, so that nobody else rests.
    if len(here) % 2 == 1 and one in resters:
        found.extend(full_rounds(others, pairs, resters))
    return found


def _next_full_rounds(tour):
    here = players_there(tour, len(tour.rounds))
    return full_rounds(here, may_meet(tour), may_rest(tour))


def has_full_round(tour):
    """Whether there is a full round."""
    return len(_next_full_rounds(tour)) > 0


def is_full_round(tour, value):
    """Whether value, any value, is a full round of the tour."""
    return are_pairs(value, tour.many) and plain(value) in _next_full_rounds(tour)


def full_round(tour):
    """The first full round."""
    found = _next_full_rounds(tour)
    if not found:
        raise Undefined("round")
    return found[0]


def _round_points(tour):
    """The points of the next round: who is there and, if these are odd, the resting."""
    here = players_there(tour, len(tour.rounds))
    if len(here) % 2 == 1:
        return here + [tour.many]
    return here


def _ties(tour):
    """The pairs of points of the next round that are tied, and perhaps of others."""
    return list(may_meet(tour)) + [(player, tour.many) for player in may_rest(tour)]


def _odd_parts(nodes, ties):
    """How many of the parts in which the nodes hang together have an odd number of them."""
    left = list(nodes)
    odd = 0
    while left:
        reached = [left.pop()]
        size = 0
        while reached:
            node = reached.pop()
            size += 1
            near = [x for x in left if (x, node) in ties or (node, x) in ties]
            left = [x for x in left if x not in near]
            reached.extend(near)
        odd += size % 2
    return odd


def _bars(members, nodes, ties):
    """Whether the members, some of the nodes, leave more odd parts than they are."""
    others = [node for node in nodes if node not in members]
    return _odd_parts(others, ties) > len(members)


def bar(tour):
    """Some points of the next round that show that it is no full one: the fewest."""
    if has_full_round(tour):
        raise Undefined("bar")
    nodes = _round_points(tour)
    ties = _ties(tour)
    chosen = [members for size in range(len(nodes) + 1) for members in combinations(nodes, size)]
    # By Tutte's theorem one of them bars, since there is no full round.
    return [members for members in chosen if _bars(members, nodes, ties)][0]


def bar_holds(tour, value):
    """Whether value, any value, is a bar of the tour."""
    if not are_numbers(value, tour.many):
        return False
    nodes = _round_points(tour)
    return all([member in nodes for member in value]) and _bars(value, nodes, _ties(tour))
