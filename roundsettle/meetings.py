"""Meeting rounds in which all who may meet do, as few as can be, and crowds that need so many."""

from itertools import combinations

from roundsettle.errors import Undefined
from roundsettle.kinds import are_apart, are_numbers, are_seated, is_integer, plain
from roundsettle.pairing import may_meet


def _put(rounds, pairs, most):
    """The rounds with the pairs put to them, at most so many rounds; None if it cannot be."""
    if not pairs:
        return rounds
    first = pairs[0]
    for at, games in enumerate(rounds):
        if are_apart(games + (first,)):
            fuller = rounds[:at] + [games + (first,)] + rounds[at + 1:]
            found = _put(fuller, pairs[1:], most)
            if found is not None:
                return found
    # All rounds that are still empty are alike, so that one of them is enough to try.
    if len(rounds) < most:
        return _put(rounds + [(first,)], pairs[1:], most)
    return None


def meeting(tour):
    """As few rounds as can be in which each pair that may meet is in just one."""
    pairs = may_meet(tour)
    most = 0
    found = _put([], pairs, most)
    while found is None:
        most += 1
        found = _put([], pairs, most)
    return tuple(found)


def rounds_to_meet(tour):
    """How many meeting rounds are needed."""
    return len(meeting(tour))


def is_meeting(tour, value):
    """Whether value, any value, is a tuple of meeting rounds, as few as can be or not."""
    if not isinstance(value, tuple) or not all([are_seated(pairs, tour.many) for pairs in value]):
        return False
    pairs = sorted([pair for games in plain(value) for pair in games])
    return tuple(pairs) == may_meet(tour)


def _crowd(pairs, k, players):
    """Whether these players, ascending, show that the pairs need k rounds."""
    size = len(players)
    if size == 1:
        return len([pair for pair in pairs if players[0] in pair]) >= k
    among = [(a, b) for a, b in pairs if a in players and b in players]
    return size % 2 == 1 and 2 * len(among) > (k - 1) * (size - 1)


def crowd(tour):
    """A crowd for rounds_to_meet: one of the fewest players."""
    k = rounds_to_meet(tour)
    if k == 0:
        raise Undefined("crowd")
    pairs = may_meet(tour)
    chosen = [some for size in range(1, tour.many + 1) for some in combinations(range(tour.many), size)]
    # Among so few players there is always one.
    return [players for players in chosen if _crowd(pairs, k, players)][0]


def crowd_holds(tour, k, value):
    """Whether k is a number from 1 on and value, any value, a crowd for it."""
    if not is_integer(k) or k < 1 or not are_numbers(value, tour.many - 1):
        return False
    return _crowd(may_meet(tour), k, plain(value))
