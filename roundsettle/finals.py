"""Final points: what the open games can come to, or a set of players that bars it."""

from itertools import combinations

from roundsettle.errors import InvalidOutcomes, InvalidTarget, Undefined
from roundsettle.kinds import are_numbers, is_row, is_within, plain
from roundsettle.tours import OPEN, WIN, points

MOST_TARGET = 20
MUCH = "much"
LITTLE = "little"


def open_games(tour):
    """The tuple of (number of the round, a, b) for each open game, ascending."""
    found = []
    for r, games in enumerate(tour.rounds):
        found.extend([(r, a, b) for a, b, won in games if won == OPEN])
    return tuple(found)


def are_outcomes(tour, value):
    """Whether value, any value, has a's points for each open game and nothing else."""
    games = open_games(tour)
    return is_row(value, len(games)) and all([is_within(won, 0, WIN) for won in value])


def is_target(tour, value):
    """Whether value, any value, has final points for each player and nothing else."""
    return is_row(value, tour.many) and all([is_within(goal, 0, MOST_TARGET) for goal in value])


def _with_game(end, a, b, won):
    """Outcomes and points with those of one more game put to them."""
    outcomes, told = end
    got = list(told)
    got[a] += won
    got[b] += WIN - won
    return outcomes + (won,), tuple(got)


def final(tour, outcomes):
    """The points of all players when the open games have come out so."""
    if not are_outcomes(tour, outcomes):
        raise InvalidOutcomes(outcomes)
    end = ((), points(tour))
    for (_, a, b), won in zip(open_games(tour), plain(outcomes)):
        end = _with_game(end, a, b, won)
    return end[1]


def ends(tour):
    """The pairs (outcomes, final points) for all outcomes, ascending."""
    found = [((), points(tour))]
    for _, a, b in open_games(tour):
        found = [_with_game(end, a, b, won) for end in found for won in range(WIN + 1)]
    return found


def _reaching(tour, target):
    """All outcomes that have these final points, ascending."""
    goals = plain(target)
    return [outcomes for outcomes, got in ends(tour) if got == goals]


def is_reached(tour, target):
    """Whether some outcomes have these final points; target is one."""
    return len(_reaching(tour, target)) > 0


def reaches(tour, target):
    """The first outcomes that have these final points."""
    if not is_target(tour, target):
        raise InvalidTarget(target)
    found = _reaching(tour, target)
    if not found:
        raise Undefined("reach")
    return found[0]


def _least_and_most(tour, players):
    """The least and the most points that the players can have together at the end."""
    got = points(tour)
    now = sum([got[player] for player in players])
    games = open_games(tour)
    inner = [(a, b) for _, a, b in games if a in players and b in players]
    outer = [(a, b) for _, a, b in games if a in players or b in players]
    return now + WIN * len(inner), now + WIN * len(outer)


def _bars_target(tour, target, word, players):
    """Whether the players, ascending, have too much or too little in the target, as the word says."""
    least, most = _least_and_most(tour, players)
    there = sum([target[player] for player in players])
    if word == MUCH:
        return there > most
    return there < least


def reach_paper(tour, target):
    """A set of players that has too much or too little in the target: one of the fewest."""
    if not is_target(tour, target):
        raise InvalidTarget(target)
    if is_reached(tour, target):
        raise Undefined("paper")
    goals = plain(target)
    chosen = [some for size in range(1, tour.many + 1) for some in combinations(range(tour.many), size)]
    papers = [(word, players) for players in chosen for word in (MUCH, LITTLE)]
    # One of them bars the target, since no outcomes have it.
    return [paper for paper in papers if _bars_target(tour, goals, paper[0], paper[1])][0]


def reach_holds(tour, target, value):
    """Whether value, any value, is a set that has too much or too little in a target."""
    if not is_target(tour, target) or not is_row(value, 2):
        return False
    word, players = value
    if not isinstance(word, str) or word not in (MUCH, LITTLE):
        return False
    if not are_numbers(players, tour.many - 1) or len(players) == 0:
        return False
    return _bars_target(tour, plain(target), word, plain(players))
