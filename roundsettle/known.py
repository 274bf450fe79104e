"""What is known of a hidden order of players, and what bout rounds tell of it."""

from itertools import combinations, permutations

from roundsettle.errors import InvalidNumber, InvalidOrder, InvalidPairs, InvalidRound, Undefined
from roundsettle.kinds import are_seated, is_ascending, is_row, is_within, plain

MOST_RANKED = 4


def _is_unlike(value, many):
    """Whether value is a pair of two players, in either order."""
    if not is_row(value, 2):
        return False
    a, b = value
    return is_within(a, 0, many - 1) and is_within(b, 0, many - 1) and a != b


def _are_unlike(value, many):
    return isinstance(value, tuple) and all([_is_unlike(pair, many) for pair in value])


def is_known(many, value):
    """Whether value, any value, is something known of the order of so many players."""
    if not _are_unlike(value, many) or not is_ascending(value):
        return False
    # Two players that are each better than the other one would need a pair of likes.
    return all([(a, d) in value for a, b in value for c, d in value if b == c])


def orders_of(many, pairs):
    """All orders of so many players that have the better one of each pair ahead."""
    told = sorted(set(plain(pairs)))
    found = list(permutations(range(many)))
    return [order for order in found if all([order.index(a) < order.index(b) for a, b in told])]


def common_known(orders):
    """The known tuple of what all these orders tell; there is one at least."""
    # Just what follows from known pairs holds in all orders that agree with them.
    ahead = [list(combinations(list(order), 2)) for order in orders]
    return tuple(sorted([pair for pair in ahead[0] if all([pair in pairs for pairs in ahead])]))


def known_from(many, pairs):
    """The known tuple with the pairs and just what follows from them."""
    if not is_within(many, 1, MOST_RANKED):
        raise InvalidNumber(many)
    if not _are_unlike(pairs, many):
        raise InvalidPairs(pairs)
    found = orders_of(many, pairs)
    if not found:
        raise Undefined("known")
    return common_known(found)


def require_known(many, known):
    """Raise the error of the first one that is wrong: the number of players or what is known."""
    if not is_within(many, 1, MOST_RANKED):
        raise InvalidNumber(many)
    if not is_known(many, known):
        raise InvalidOrder(known)


def require_rank(many, known, rank):
    """Raise the error of the first one that is wrong, the rank as the last."""
    require_known(many, known)
    if not is_within(rank, 1, many):
        raise InvalidNumber(rank)


def is_settled(orders, rank):
    """Whether the same player has this rank in all these orders."""
    return len(set([order[rank - 1] for order in orders])) == 1


def settled(many, known, rank):
    """Whether the same player has this rank in all orders that agree with what is known."""
    require_rank(many, known, rank)
    return is_settled(orders_of(many, known), rank)


def results_in(orders, bouts):
    """The ascending tuple of pairs (winners, known then) that these orders let come out."""
    told = {}
    for order in orders:
        winners = tuple([a if order.index(a) < order.index(b) else b for a, b in bouts])
        told.setdefault(winners, []).append(order)
    return tuple(sorted([(winners, common_known(told[winners])) for winners in told]))


def results(many, known, bouts):
    """The ascending tuple of pairs (winners, known then) of all results of a bout round."""
    require_known(many, known)
    if not are_seated(bouts, many):
        raise InvalidRound(bouts)
    return results_in(orders_of(many, known), plain(bouts))
