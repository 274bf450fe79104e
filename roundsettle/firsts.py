"""Who can still be first and who surely is, and the best and the worst rank of a player."""

from itertools import combinations

from roundsettle.errors import InvalidPlayer, Undefined
from roundsettle.finals import ends, open_games
from roundsettle.kinds import are_numbers, is_within
from roundsettle.tours import WIN, points


def is_player(tour, value):
    """Whether value, any value, is a player of the tour."""
    return is_within(value, 0, tour.many - 1)


def _others(tour, player):
    return [other for other in range(tour.many) if other != player]


def is_first(got, player, alone):
    """Whether the player is first (alone) if all players have got so many points."""
    ahead = got[player] - 1 if alone else got[player]
    return all([got[other] <= ahead for other in range(len(got)) if other != player])


def mosts(tour):
    """The tuple of the most points that each player can have at the end."""
    told = list(points(tour))
    for _, a, b in open_games(tour):
        told[a] += WIN
        told[b] += WIN
    return tuple(told)


def first_outcomes(tour, player, alone):
    """The first outcomes at the end of which the player is first (alone)."""
    if not is_player(tour, player):
        raise InvalidPlayer(player)
    found = [outcomes for outcomes, got in ends(tour) if is_first(got, player, alone)]
    if not found:
        raise Undefined("first")
    return found[0]


def _are_bound(tour, player, alone, others):
    """Whether the others, ascending, not () and without the player, are bound to pass it."""
    got = points(tour)
    inner = [(a, b) for _, a, b in open_games(tour) if a in others and b in others]
    together = sum([got[other] for other in others]) + WIN * len(inner)
    bound = mosts(tour)[player]
    if alone:
        bound -= 1
    return together > len(others) * bound


def _all_bound(tour, player, alone):
    """All others that are bound to pass the player, the fewest ahead."""
    others = _others(tour, player)
    chosen = [some for size in range(1, len(others) + 1) for some in combinations(others, size)]
    return [some for some in chosen if _are_bound(tour, player, alone, some)]


def can_be_first(tour, player, alone):
    """Whether some outcomes make the player first (alone): just if no others are bound to pass it."""
    return not _all_bound(tour, player, alone)


def passing(tour, player, alone):
    """Others that are bound to pass the player: one of the fewest."""
    if not is_player(tour, player):
        raise InvalidPlayer(player)
    found = _all_bound(tour, player, alone)
    if not found:
        raise Undefined("passing")
    return found[0]


def passing_holds(tour, player, alone, value):
    """Whether value, any value, is others that are bound to pass a player; so are player and alone any."""
    if not is_player(tour, player) or not isinstance(alone, bool):
        return False
    if not are_numbers(value, tour.many - 1) or len(value) == 0 or player in value:
        return False
    return _are_bound(tour, player, alone, value)


def sure_first(tour, player, alone):
    """Whether the player is first (alone) at the end of all outcomes."""
    if not is_player(tour, player):
        raise InvalidPlayer(player)
    # Some outcomes have the most of one other player and give this one nothing more.
    now = points(tour)[player]
    most = mosts(tour)
    ahead = now - 1 if alone else now
    return all([most[other] <= ahead for other in _others(tour, player)])


def other_outcomes(tour, player, alone):
    """The first outcomes at the end of which the player is not first (alone)."""
    if not is_player(tour, player):
        raise InvalidPlayer(player)
    found = [outcomes for outcomes, got in ends(tour) if not is_first(got, player, alone)]
    if not found:
        raise Undefined("sure")
    return found[0]


def ranks(tour, player):
    """The best and the worst rank of the player at the end of all outcomes."""
    if not is_player(tour, player):
        raise InvalidPlayer(player)
    found = [1 + len([had for had in got if had > got[player]]) for _, got in ends(tour)]
    return min(found), max(found)
