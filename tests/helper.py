"""Tours and wrong values for the tests, and slow answers written straight from the document."""

import random
from collections import namedtuple
from functools import lru_cache
from itertools import chain, combinations, permutations, product
from types import SimpleNamespace

from roundsettle.errors import RoundError
from roundsettle.tours import Tour

Two = namedtuple("Two", "a b")
Three = namedtuple("Three", "a b c")
Five = namedtuple("Five", "a b c d e")


class OwnInt(int):
    """An integer of a class of its own."""


def tour_of(many, rounds=(), bye=0, barred=(), stays=None):
    """A tour in which, where nothing else is said, all are there all the time."""
    if stays is None:
        stays = ((0, 12),) * many
    return Tour(many, bye, barred, stays, rounds)


def any_values():
    """Values of every kind: integers, bools, None, strings, objects, lists and tuples of these."""
    tour = tour_of(2)
    deep = ()
    for _ in range(60):
        deep = (deep,)
    return [
        0, 1, -1, 10 ** 12 - 1, -(10 ** 12 - 1), True, False, None, "", "round", "(0, 1)", "x" * 4000,
        tour, RoundError(), [], [()], [(0, 1)], [[0, 1]], (None,), ("",), (True,), (False,), (tour,),
        ((),), ((), ()), ([],), ((0,),), ((0, 1, 2),), ([0, 1],), (0, (0, 1)), ((0, 1), 0), ((0, "1"),),
        ((0, None),), ((True, 2),), ((0, True),), ((False, True),), ((False, 1),), ((0, tour),), deep,
        (0,) * 30000, ((0, 1),) * 15000, tuple(range(30000)), [0] * 30000,
    ]


def is_plain(value):
    """Whether value is an integer or a tuple of integers and such tuples, of no class of its own."""
    if type(value) is tuple:
        return all(is_plain(part) for part in value)
    return type(value) is int


def drawn_tour(draw, points=(-1, 0, 1, 2)):
    """A tour with drawn stays, barred pairs and rounds; draw is a random.Random."""
    many = draw.randint(1, 6)
    pairs = list(combinations(range(many), 2))
    barred = tuple(pair for pair in pairs if draw.random() < draw.choice([0, 0.1, 0.5]))
    length = draw.randint(0, 6)
    stays = []
    for _ in range(many):
        first = draw.choice([0, 0, 0, draw.randint(0, length)])
        stays.append((first, draw.choice([12, 12, 12, draw.randint(first, 12)])))
    rounds = []
    met = list(barred)
    left = 7
    for r in range(length):
        games = []
        seated = []
        draw.shuffle(pairs)
        for a, b in pairs[:draw.randint(0, len(pairs))]:
            if any(not stays[x][0] <= r < stays[x][1] or x in seated for x in (a, b)) or (a, b) in met:
                continue
            got = draw.choice(points if left else (0, 1, 2))
            left -= got == -1
            games.append((a, b, got))
            met.append((a, b))
            seated += [a, b]
        rounds.append(tuple(sorted(games)))
    return Tour(many, draw.randint(0, 2), barred, tuple(stays), tuple(rounds))


def drawn_tours(seed, number):
    """So many drawn tours, the same for each call with the same seed."""
    draw = random.Random(seed)
    return [drawn_tour(draw) for _ in range(number)]


def tours_with_open(seed, open_games, number):
    """So many drawn tours with just so many open games."""
    draw = random.Random(seed)
    found = []
    while len(found) < number:
        tour = drawn_tour(draw, draw.choice([(-1,), (-1, 0, 1, 2), (-1, -1, -1, 0, 2)]))
        if sum(1 for games in tour.rounds for game in games if game[2] == -1) == open_games:
            found.append(tour)
    return found


def later(tour, by):
    """The tour with so many rounds ahead of all others in which nobody is there."""
    stays = tuple((min(12, first + by), min(12, last + by)) for first, last in tour.stays)
    return Tour(tour.many, tour.bye, tour.barred, stays, ((),) * by + tour.rounds)


def in_place(value, at, new):
    """The tuple with something new at this place."""
    return value[:at] + (new,) + value[at + 1:]


def subsets(parts):
    """All sets of these parts, as tuples."""
    parts = list(parts)
    return list(chain(*[combinations(parts, size) for size in range(len(parts) + 1)]))


def here_next(tour, behind=0):
    """Who is there in the next round, or so many rounds behind it."""
    r = len(tour.rounds) + behind
    return [x for x in range(tour.many) if tour.stays[x][0] <= r and r < tour.stays[x][1]]


def slow_may_meet(tour):
    here = here_next(tour)
    games = list(chain(*tour.rounds))
    return tuple(
        pair for pair in combinations(here, 2)
        if pair not in tour.barred and not any(game[:2] == pair for game in games)
    )


def slow_rests(tour, player):
    """In how many of the rounds the player rests."""
    return sum(
        1 for r, games in enumerate(tour.rounds)
        if tour.stays[player][0] <= r < tour.stays[player][1]
        and not any(player in game[:2] for game in games)
    )


def slow_may_rest(tour):
    return tuple(x for x in here_next(tour) if slow_rests(tour, x) == 0)


def slow_rounds_of(here, pairs, resters):
    """All full rounds of those who are here, sorted: every set of such pairs is looked at."""
    found = []
    for chosen in combinations(pairs, len(here) // 2):
        seated = [x for pair in chosen for x in pair]
        left = [x for x in here if x not in seated]
        if len(set(seated)) == len(seated) and all(x in resters for x in left):
            found.append(chosen)
    return sorted(found)


def slow_full_rounds(tour):
    """All full rounds, sorted."""
    return slow_rounds_of(here_next(tour), slow_may_meet(tour), slow_may_rest(tour))


def with_rounds(tour, rounds):
    """The tour with these rounds of open games behind it, also where a Tour refuses them."""
    games = tuple(tuple((a, b, -1) for a, b in pairs) for pairs in rounds)
    return SimpleNamespace(
        many=tour.many, bye=tour.bye, barred=tour.barred, stays=tour.stays, rounds=tour.rounds + games)


def slow_further(tour, k, ahead=()):
    """The first tuple of k further rounds, or None: they are tried in order."""
    if len(ahead) == k:
        return ahead
    for pairs in slow_full_rounds(with_rounds(tour, ahead)):
        found = slow_further(tour, k, ahead + (pairs,))
        if found is not None:
            return found
    return None


def slow_led_to(tour, t, stand):
    """All stands to which full rounds from a stand for t lead, sorted."""
    here = here_next(tour, t)
    gone = [*tour.barred, *stand[0], *[(a, b) for games in tour.rounds for a, b, _ in games]]
    pairs = [pair for pair in combinations(here, 2) if pair not in gone]
    resters = [x for x in here if slow_rests(tour, x) == 0 and x not in stand[1]]
    found = set()
    for chosen in slow_rounds_of(here, pairs, resters):
        rest = set(here) - set(chain(*chosen))
        found.add((tuple(sorted({*stand[0], *chosen})), tuple(sorted({*stand[1], *rest}))))
    return sorted(found)


def slow_stands(tour, k):
    """For each t from 0 to k the stands that can be come to, sorted."""
    levels = [(((), ()),)]
    for t in range(k):
        levels.append(tuple(sorted({new for old in levels[t] for new in slow_led_to(tour, t, old)})))
    return tuple(levels)


def slow_are_walls(tour, k, value):
    """Whether value is walls for k; value is a tuple of integers and such tuples."""
    if len(value) != k + 1 or ((), ()) not in value[0] or value[k] != ():
        return False
    pairs = list(combinations(range(tour.many), 2))
    for stands in value:
        if list(stands) != sorted(set(stands)):
            return False
        for met, rested in stands:
            if list(met) != sorted(set(met) & set(pairs)):
                return False
            if list(rested) != sorted(set(rested) & set(range(tour.many))):
                return False
    return all(new in value[t + 1] for t in range(k) for old in value[t] for new in slow_led_to(tour, t, old))


def apart(pairs):
    """Whether no player is in two of the pairs."""
    seated = list(chain(*pairs))
    return len(seated) == len(set(seated))


@lru_cache(maxsize=None)
def slow_are_enough(pairs, k):
    """Whether the pairs can be put into k rounds: every round with the first pair is tried."""
    if not pairs or k == 0:
        return not pairs
    for size in range(3):
        for others in combinations(pairs[1:], size):
            chosen = (pairs[0],) + others
            left = tuple(pair for pair in pairs if pair not in chosen)
            if apart(chosen) and slow_are_enough(left, k - 1):
                return True
    return False


def slow_rounds_to_meet(tour):
    """How many meeting rounds are needed: one number is tried behind the other."""
    pairs = slow_may_meet(tour)
    return [k for k in range(len(pairs) + 1) if slow_are_enough(pairs, k)][0]


def slow_is_crowd(tour, k, players):
    """Whether an ascending tuple of players is a crowd for k."""
    pairs = slow_may_meet(tour)
    m = len(players)
    if k < 1 or m % 2 == 0:
        return False
    if m == 1:
        return sum(1 for a, b in pairs if a == players[0] or b == players[0]) >= k
    return 2 * sum(1 for pair in combinations(players, 2) if pair in pairs) > (k - 1) * (m - 1)


def slow_open_games(tour):
    return tuple(
        (r, a, b) for r in range(len(tour.rounds)) for a, b in combinations(range(tour.many), 2)
        if (a, b, -1) in tour.rounds[r]
    )


def all_outcomes(tour):
    """All outcomes, sorted."""
    return sorted(product((2, 0, 1), repeat=len(slow_open_games(tour))))


def come_out(tour, outcomes):
    """The tour with its open games come out so."""
    told = dict(zip(slow_open_games(tour), outcomes))
    rounds = tuple(
        tuple((a, b, told.get((r, a, b), won)) for a, b, won in games)
        for r, games in enumerate(tour.rounds)
    )
    return Tour(tour.many, tour.bye, tour.barred, tour.stays, rounds)


def slow_points(tour):
    """The points of all players, told one by one."""
    games = [game for games in tour.rounds for game in games if game[2] != -1]
    return tuple(
        sum(won for a, b, won in games if a == x) + sum(2 - won for a, b, won in games if b == x)
        + tour.bye * slow_rests(tour, x)
        for x in range(tour.many)
    )


def slow_ends(tour):
    """A dict of the final points of all outcomes, the outcomes sorted."""
    return {outcomes: slow_points(come_out(tour, outcomes)) for outcomes in all_outcomes(tour)}


def slow_bars_target(tour, target, word, players):
    """Whether a set of players has too much ("much") or too little ("little") in the target."""
    have = sum(target[x] for x in players)
    now = sum(slow_points(tour)[x] for x in players)
    members = [len({a, b} & set(players)) for r, a, b in slow_open_games(tour)]
    if word == "much":
        return have > now + 2 * (members.count(1) + members.count(2))
    return have < now + 2 * members.count(2)


def slow_is_first(got, player, alone):
    """Whether the player is first (alone) with these points of all."""
    if alone:
        return [x for x in range(len(got)) if got[x] >= got[player]] == [player]
    return got[player] == max(got)


def slow_most(tour, player):
    """The most of a player: its points now and 2 for each of its open games."""
    return slow_points(tour)[player] + 2 * sum(1 for r, a, b in slow_open_games(tour) if player in (a, b))


def slow_are_bound(tour, player, alone, others):
    """Whether others, an ascending tuple of players, are bound to pass the player."""
    if not others or player in others:
        return False
    inner = sum(1 for r, a, b in slow_open_games(tour) if a in others and b in others)
    together = sum(slow_points(tour)[x] for x in others) + 2 * inner
    return together > len(others) * (slow_most(tour, player) - alone)


def slow_rank(got, player):
    return 1 + sum(1 for had in got if had > got[player])


def slow_agreeing(many, pairs):
    """All orders that have the better one of each pair ahead, sorted."""
    return sorted(
        order for order in permutations(range(many)) if not any((b, a) in pairs for a, b in combinations(order, 2)))


def slow_closure(pairs):
    """The pairs and all that follow from them, sorted: they are joined until nothing is new."""
    told = set(pairs)
    while True:
        new = {(a, d) for a, b in told for c, d in told if b == c} - told
        if not new:
            return tuple(sorted(told))
        told |= new


def slow_all_known(many):
    """All known tuples of so many players, sorted: every set of pairs is looked at."""
    pairs = list(permutations(range(many), 2))
    found = []
    for some in subsets(pairs):
        if len(some) <= many * (many - 1) // 2 and slow_closure(some) == some:
            if not any(a == b for a, b in some):
                found.append(some)
    return sorted(found)


def slow_bouts(many):
    """All bout rounds, sorted."""
    return sorted(some for some in subsets(combinations(range(many), 2)) if some and apart(some))


@lru_cache(maxsize=None)
def slow_results(many, known, bouts):
    """All pairs (winners, known then), sorted: every row of winners is tried."""
    found = []
    for winners in product(*bouts):
        told = [(x, a + b - x) for (a, b), x in zip(bouts, winners)]
        then = slow_closure(known + tuple(told))
        if not any(a == b for a, b in then):
            found.append((winners, then))
    return tuple(sorted(found))


@lru_cache(maxsize=None)
def slow_settled(many, known, rank):
    return len({order[rank - 1] for order in slow_agreeing(many, known)}) == 1


@lru_cache(maxsize=None)
def slow_is_enough(many, known, rank, k):
    """Whether k bout rounds settle the rank whatever comes out: each round is tried."""
    if slow_settled(many, known, rank):
        return True
    return k > 0 and any(
        all(slow_is_enough(many, then, rank, k - 1) for _, then in slow_results(many, known, bouts))
        for bouts in slow_bouts(many)
    )


@lru_cache(maxsize=None)
def slow_least(many, known, rank):
    """The least number of bout rounds: one number is tried behind the other."""
    k = 0
    while not slow_is_enough(many, known, rank, k):
        k += 1
    return k


def slow_is_table(many, rank, rows):
    """Whether rows, pairs of something known and a number, are a table."""
    if list(rows) != sorted(set(rows)) or len({known for known, _ in rows}) < len(rows):
        return False
    told = dict(rows)
    for known, number in rows:
        if (number == 0) != slow_settled(many, known, rank):
            return False
        if number == 0:
            continue
        leads = [[told.get(then, -9) for _, then in slow_results(many, known, bouts)] for bouts in slow_bouts(many)]
        if not any(all(0 <= there <= number - 1 for there in lead) for lead in leads):
            return False
        if not all(any(there >= number - 1 for there in lead) for lead in leads):
            return False
    return True


def slow_points_of_round(tour):
    here = here_next(tour)
    return here + [tour.many] if len(here) % 2 else here


def slow_is_bar(tour, members):
    """Whether these points of the round are a bar; the parts are found by joining names."""
    nodes = [x for x in slow_points_of_round(tour) if x not in members]
    part = {x: x for x in nodes}
    ties = slow_may_meet(tour) + tuple((x, tour.many) for x in slow_may_rest(tour))
    for a, b in ties:
        if a in part and b in part:
            old, new = part[a], part[b]
            part = {x: new if name == old else name for x, name in part.items()}
    names = list(part.values())
    return sum(1 for name in set(names) if names.count(name) % 2 == 1) > len(members)


def slow_bars(tour):
    """All bars."""
    nodes = slow_points_of_round(tour)
    chosen = chain(*[combinations(nodes, size) for size in range(len(nodes) + 1)])
    return [members for members in chosen if slow_is_bar(tour, members)]


def small_tuples(parts, longest):
    """All tuples of these parts that are no longer than that."""
    return chain(*[product(parts, repeat=size) for size in range(longest + 1)])
