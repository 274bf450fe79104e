"""Tours: players, their stays, the rounds that are played, and the points from these."""

from roundsettle.errors import InvalidNumber, InvalidPairs, InvalidRounds, InvalidStays
from roundsettle.kinds import are_pairs, is_ascending, is_pair, is_row, is_within, plain

OPEN = -1
WIN = 2
MOST_PLAYERS = 6
MOST_BYE = 2
MOST_STAY = 12
MOST_ROUNDS = 8
MOST_OPEN = 7


class Tour:
    """Players who meet in rounds; it never changes."""

    def __init__(self, many, bye, barred, stays, rounds):
        if not is_within(many, 1, MOST_PLAYERS):
            raise InvalidNumber(many)
        if not is_within(bye, 0, MOST_BYE):
            raise InvalidNumber(bye)
        if not are_pairs(barred, many):
            raise InvalidPairs(barred)
        if not _are_stays(stays, many):
            raise InvalidStays(stays)
        if not _are_rounds(rounds, many) or not _fit(rounds, barred, stays):
            raise InvalidRounds(rounds)
        self.many = plain(many)
        self.bye = plain(bye)
        self.barred = plain(barred)
        self.stays = plain(stays)
        self.rounds = plain(rounds)

    def __eq__(self, other):
        return (
            isinstance(other, Tour)
            and self.many == other.many
            and self.bye == other.bye
            and self.barred == other.barred
            and self.stays == other.stays
            and self.rounds == other.rounds
        )


def _is_stay(value):
    if not is_row(value, 2):
        return False
    first, last = value
    return is_within(first, 0, MOST_STAY) and is_within(last, 0, MOST_STAY) and first <= last


def _are_stays(value, many):
    return is_row(value, many) and all([_is_stay(stay) for stay in value])


def _is_game(value, many):
    if not is_row(value, 3):
        return False
    a, b, won = value
    return is_pair((a, b), many) and is_within(won, OPEN, WIN)


def _are_games(value, many):
    if not isinstance(value, tuple) or not all([_is_game(game, many) for game in value]):
        return False
    return is_ascending(value)


def _are_rounds(value, many):
    if not isinstance(value, tuple) or len(value) > MOST_ROUNDS:
        return False
    return all([_are_games(games, many) for games in value])


def _fit(rounds, barred, stays):
    """Whether these rounds of games can stand behind each other in one tour."""
    # Barred pairs count as having met, since neither may meet in any round.
    met = list(barred)
    many_open = 0
    for r, games in enumerate(rounds):
        seated = []
        for a, b, won in games:
            if not is_there(stays[a], r) or not is_there(stays[b], r):
                return False
            if a in seated or b in seated or (a, b) in met:
                return False
            seated.extend([a, b])
            met.append((a, b))
            if won == OPEN:
                many_open += 1
    return many_open <= MOST_OPEN


def is_there(stay, r):
    """Whether a player with this stay is there in round r, counted from 0."""
    first, last = stay
    return first <= r < last


def players_there(tour, r):
    """The players that are there in round r, ascending, also behind all rounds."""
    return [player for player in range(tour.many) if is_there(tour.stays[player], r)]


def met_pairs(tour):
    """The pairs that meet in the rounds, those of open games among them."""
    return [(a, b) for games in tour.rounds for a, b, _ in games]


def resting(tour, r):
    """The players that rest in round r, which is one of the rounds, ascending."""
    seated = [player for a, b, _ in tour.rounds[r] for player in (a, b)]
    return [player for player in players_there(tour, r) if player not in seated]


def points(tour):
    """What each player has got from the games that are not open and from rests."""
    got = [0] * tour.many
    for r, games in enumerate(tour.rounds):
        for a, b, won in games:
            if won != OPEN:
                got[a] += won
                got[b] += WIN - won
        for player in resting(tour, r):
            got[player] += tour.bye
    return tuple(got)


def weights(tour):
    """For each player the points of those whom it has met in games that are not open."""
    got = points(tour)
    weighed = [0] * tour.many
    for games in tour.rounds:
        for a, b, won in games:
            if won != OPEN:
                weighed[a] += got[b]
                weighed[b] += got[a]
    return tuple(weighed)


def order(tour):
    """All players: by more points, then by more weight, then by the lesser number."""
    got = points(tour)
    weighed = weights(tour)
    rows = sorted([(-got[player], -weighed[player], player) for player in range(tour.many)])
    return tuple([row[2] for row in rows])
