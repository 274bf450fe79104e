"""So many more rounds in which all play, or walls that show that there are not so many."""

from roundsettle.errors import InvalidNumber, Undefined
from roundsettle.kinds import are_numbers, are_pairs, is_ascending, is_row, is_within, plain
from roundsettle.pairing import full_rounds, pairs_in, resters_in
from roundsettle.tours import players_there

MOST_FURTHER = 4
START = ((), ())


def _fields(tour, k):
    """For each of the next k rounds who is there, who of them may meet, and who may rest."""
    ahead = [len(tour.rounds) + t for t in range(k)]
    return [(players_there(tour, r), pairs_in(tour, r), resters_in(tour, r)) for r in ahead]


def _rounds_from(field, stand):
    """All full rounds of a field from a stand, ascending."""
    here, pairs, resters = field
    met, rested = stand
    free = [pair for pair in pairs if pair not in met]
    fresh = [player for player in resters if player not in rested]
    return full_rounds(here, free, fresh)


def _led_to(field, stand, pairs):
    """The stand to which a full round of a field leads from a stand."""
    met, rested = stand
    seated = [player for pair in pairs for player in pair]
    left = [player for player in field[0] if player not in seated]
    return tuple(sorted(list(met) + list(pairs))), tuple(sorted(list(rested) + left))


def _first_rounds(fields, stand):
    """The first tuple of full rounds, one of each field, from a stand; None if there is none."""
    if not fields:
        return ()
    for pairs in _rounds_from(fields[0], stand):
        behind = _first_rounds(fields[1:], _led_to(fields[0], stand, pairs))
        if behind is not None:
            return (pairs,) + behind
    return None


def further(tour, k):
    """The first tuple of k further full rounds."""
    if not is_within(k, 0, MOST_FURTHER):
        raise InvalidNumber(k)
    found = _first_rounds(_fields(tour, k), START)
    if found is None:
        raise Undefined("further")
    return found


def has_further(tour, k):
    """Whether there are k further full rounds; k is a number up to 4."""
    return _first_rounds(_fields(tour, k), START) is not None


def are_further(tour, k, value):
    """Whether value, any value, is k full rounds, each one of the tour with those ahead of it."""
    if not is_row(value, k):
        return False
    stand = START
    for field, pairs in zip(_fields(tour, k), value):
        if not are_pairs(pairs, tour.many) or plain(pairs) not in _rounds_from(field, stand):
            return False
        stand = _led_to(field, stand, plain(pairs))
    return True


def _stands(fields):
    """For each field, and behind the last one, the stands that rounds lead to, ascending."""
    levels = [(START,)]
    for field in fields:
        stands = levels[-1]
        found = [_led_to(field, stand, pairs) for stand in stands for pairs in _rounds_from(field, stand)]
        levels.append(tuple(sorted(set(found))))
    return tuple(levels)


def walls(tour, k):
    """Stands that show that there are no k further full rounds: those that rounds lead to."""
    if not is_within(k, 0, MOST_FURTHER):
        raise InvalidNumber(k)
    levels = _stands(_fields(tour, k))
    if levels[k]:
        raise Undefined("walls")
    return levels


def _is_stand(value, many):
    return is_row(value, 2) and are_pairs(value[0], many) and are_numbers(value[1], many - 1)


def _are_stands(value, many):
    if not isinstance(value, tuple) or not all([_is_stand(stand, many) for stand in value]):
        return False
    return is_ascending(value)


def _all_lead(field, stands, behind):
    """Whether each full round of the field from one of the stands leads to one of those behind."""
    told = set(behind)
    for stand in stands:
        for pairs in _rounds_from(field, stand):
            if _led_to(field, stand, pairs) not in told:
                return False
    return True


def walls_hold(tour, k, value):
    """Whether k is a number up to 4 and value, any value, walls for it."""
    if not is_within(k, 0, MOST_FURTHER) or not is_row(value, k + 1):
        return False
    if not all([_are_stands(stands, tour.many) for stands in value]):
        return False
    levels = plain(value)
    if START not in levels[0] or levels[k]:
        return False
    fields = _fields(tour, k)
    return all([_all_lead(fields[t], levels[t], levels[t + 1]) for t in range(k)])
