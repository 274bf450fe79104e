"""The fewest bout rounds that settle a rank whatever comes out, with a table that shows it."""

from itertools import combinations

from roundsettle.errors import Undefined
from roundsettle.kinds import are_apart, is_ascending, is_integer, is_row, plain
from roundsettle.known import is_known, is_settled, orders_of, require_rank, results_in


def bout_rounds(many):
    """All bout rounds of so many players, ascending."""
    pairs = list(combinations(range(many), 2))
    chosen = [some for size in range(1, many // 2 + 1) for some in combinations(pairs, size)]
    return sorted([some for some in chosen if are_apart(some)])


def _leads(many, known):
    """For each bout round, ascending, the list of what its results make known."""
    orders = orders_of(many, known)
    return [[then for _, then in results_in(orders, bouts)] for bouts in bout_rounds(many)]


def _fill(many, known, rank, numbers):
    """Put to numbers, a dict, the least number of known and of all that can become known from it."""
    if known in numbers:
        return
    if is_settled(orders_of(many, known), rank):
        numbers[known] = 0
        return
    found = []
    for lead in _leads(many, known):
        # Bouts whose winners are known lead back to the same and settle nothing.
        if known not in lead:
            for then in lead:
                _fill(many, then, rank, numbers)
            found.append(1 + max([numbers[then] for then in lead]))
    numbers[known] = min(found)


def _numbers(many, known, rank):
    """The least numbers of known and of all that can become known from it, as a dict."""
    numbers = {}
    _fill(many, known, rank, numbers)
    return numbers


def least_rounds(many, known, rank):
    """The least number of bout rounds that settle the rank whatever comes out."""
    require_rank(many, known, rank)
    start = plain(known)
    return _numbers(many, start, rank)[start]


def best_round(many, known, rank):
    """The first bout round whose results all lead to something known with a less number."""
    require_rank(many, known, rank)
    start = plain(known)
    numbers = _numbers(many, start, rank)
    if numbers[start] == 0:
        raise Undefined("settled")
    bouts = bout_rounds(many)
    leads = _leads(many, start)
    good = [at for at, lead in enumerate(leads) if all([numbers[then] < numbers[start] for then in lead])]
    return bouts[good[0]]


def settle_table(many, known, rank):
    """A table with known and all that can become known from it until the rank is settled."""
    require_rank(many, known, rank)
    numbers = _numbers(many, plain(known), rank)
    return tuple(sorted([(one, numbers[one]) for one in numbers]))


def _is_line(many, value):
    """Whether value is a pair of something known and a number."""
    return is_row(value, 2) and is_known(many, value[0]) and is_integer(value[1]) and value[1] >= 0


def _are_lines(many, value):
    """Whether value is an ascending tuple of lines, no two of one known."""
    if not isinstance(value, tuple) or not all([_is_line(many, line) for line in value]):
        return False
    return is_ascending([line[0] for line in value])


def _is_enough(number, told):
    """Whether a table tells of all that can come out, None for what it has not, a less number."""
    return all([there is not None and there < number for there in told])


def _is_needed(number, told):
    """Whether a table tells of something that can come out that it needs all other rounds."""
    return any([there is not None and there >= number - 1 for there in told])


def _is_right(many, rank, numbers, known):
    """Whether the number of known in the table, a dict, is shown by the others."""
    number = numbers[known]
    if number == 0 or is_settled(orders_of(many, known), rank):
        return number == 0 and is_settled(orders_of(many, known), rank)
    rows = [[numbers.get(then) for then in lead] for lead in _leads(many, known)]
    return any([_is_enough(number, told) for told in rows]) and all([_is_needed(number, told) for told in rows])


def table_holds(many, known, rank, number, value):
    """Whether value, any value, is a table that has known with this number, any value, too."""
    if not is_integer(number) or not _are_lines(many, value):
        return False
    numbers = {told: needed for told, needed in plain(value)}
    if plain(known) not in numbers or numbers[plain(known)] != number:
        return False
    return all([_is_right(many, rank, numbers, one) for one in numbers])
