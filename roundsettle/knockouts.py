"""Knock-outs of 2, 4 or 8 players: who can win by a good draw, kings, tables of winners."""

from itertools import combinations

from roundsettle.errors import InvalidBeats, InvalidDraw, InvalidPlayer, Undefined
from roundsettle.kinds import are_numbers, is_row, is_within, plain

SIZES = (2, 4, 8)


def are_beats(value):
    """Whether value, any value, has for each of 2, 4 or 8 players those whom it beats."""
    if not isinstance(value, tuple) or len(value) not in SIZES:
        return False
    many = len(value)
    if not all([are_numbers(row, many - 1) for row in value]):
        return False
    if any([player in value[player] for player in range(many)]):
        return False
    return all([(b in value[a]) != (a in value[b]) for a, b in combinations(range(many), 2)])


def _are_all(value, many):
    """Whether value is a tuple of all players below many."""
    return is_row(value, many) and all([is_within(x, 0, many - 1) for x in value]) and len(set(value)) == many


def _better(beats, one, other):
    """The one of two unlike players that beats the other one."""
    if other in beats[one]:
        return one
    return other


def winner(beats, draw):
    """Who is left when neighbours of the draw have met until one is."""
    if not are_beats(beats):
        raise InvalidBeats(beats)
    if not _are_all(draw, len(beats)):
        raise InvalidDraw(draw)
    left = list(plain(draw))
    while len(left) > 1:
        left = [_better(beats, left[at], left[at + 1]) for at in range(0, len(left), 2)]
    return left[0]


def _sets(many, size):
    """All sets of so many of the players, as ascending tuples."""
    return list(combinations(range(many), size))


def _parted(players, size):
    """Each way to part the players into two halves of this size, once, as pairs of tuples."""
    halves = [half for half in combinations(list(players), size) if half[0] == players[0]]
    return [(half, tuple([x for x in players if x not in half])) for half in halves]


def _halves(players):
    return _parted(players, len(players) // 2)


def _best_of(beats, winners, players):
    """Who wins the set by some draw; winners, a dict, tells it of all halves."""
    found = {}
    for half, other in _halves(players):
        for x in winners[half]:
            for y in winners[other]:
                found[_better(beats, x, y)] = True
    return tuple(sorted(found))


def _all_winners(beats):
    """For each set of 1, 2, 4 or 8 players those who win it by some draw, as a dict."""
    many = len(beats)
    winners = {(player,): (player,) for player in range(many)}
    for size in SIZES:
        for players in _sets(many, size):
            winners[players] = _best_of(beats, winners, players)
    return winners


def _drawn(beats, winners, players, player):
    """Some draw of the players by which the player, one of their winners, wins."""
    if len(players) == 1:
        return players
    found = []
    for half, other in _halves(players):
        own, against = (half, other) if player in half else (other, half)
        if player in winners[own]:
            found.extend([(own, against, y) for y in winners[against] if y in beats[player]])
    own, against, beaten = found[0]
    return _drawn(beats, winners, own, player) + _drawn(beats, winners, against, beaten)


def draw_for(beats, player):
    """Some draw by which the player wins."""
    if not are_beats(beats):
        raise InvalidBeats(beats)
    if not is_within(player, 0, len(beats) - 1):
        raise InvalidPlayer(player)
    winners = _all_winners(beats)
    players = tuple(range(len(beats)))
    if player not in winners[players]:
        raise Undefined("draw")
    return _drawn(beats, winners, players, player)


def can_win(beats):
    """The players that win by some draw, ascending."""
    if not are_beats(beats):
        raise InvalidBeats(beats)
    return _all_winners(beats)[tuple(range(len(beats)))]


def _is_king(beats, player):
    """Whether the player beats each other one, or beats one that beats it."""
    reached = list(beats[player]) + [x for beaten in beats[player] for x in beats[beaten]]
    return all([x in reached for x in range(len(beats)) if x != player])


def kings(beats):
    """All kings, ascending."""
    if not are_beats(beats):
        raise InvalidBeats(beats)
    return tuple([player for player in range(len(beats)) if _is_king(beats, player)])


def winners_table(beats):
    """The winners' table in which just those who win a set by some draw are its winners."""
    if not are_beats(beats):
        raise InvalidBeats(beats)
    winners = _all_winners(beats)
    return tuple(sorted([(players, winners[players]) for players in winners if len(players) > 1]))


def _are_members(value, many):
    """Whether value is a pair of ascending tuples of players, each of the second one in the first."""
    if not is_row(value, 2) or not all([are_numbers(part, many - 1) for part in value]):
        return False
    return all([player in value[0] for player in value[1]])


def _winners_told(beats, value):
    """The winners of all sets of 1, 2, 4 or 8 players that value tells, as a dict; None if it does not."""
    many = len(beats)
    sets = sorted([players for size in SIZES for players in _sets(many, size)])
    if not is_row(value, len(sets)) or not all([_are_members(row, many) for row in value]):
        return None
    rows = plain(value)
    if [row[0] for row in rows] != sets:
        return None
    winners = {(player,): (player,) for player in range(many)}
    for players, told in rows:
        winners[players] = told
    return winners


def bars_hold(beats, player, value):
    """Whether player, any value, is one, and value, any value, a winners' table in which it does not win."""
    if not is_within(player, 0, len(beats) - 1):
        return False
    winners = _winners_told(beats, value)
    if winners is None or player in winners[tuple(range(len(beats)))]:
        return False
    bigger = [players for players in winners if len(players) > 1]
    return all([x in winners[players] for players in bigger for x in _best_of(beats, winners, players)])
