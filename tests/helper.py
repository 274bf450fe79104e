"""Tours and wrong values for the tests, and slow answers written straight from the document."""

import random
from collections import namedtuple
from functools import lru_cache
from itertools import chain, combinations, permutations, product
from types import SimpleNamespace

from roundsettle.errors import InvalidNumber, InvalidPairs, InvalidPlayer, InvalidRound, RoundError, Undefined
from roundsettle.tours import Tour

Two = namedtuple("Two", "a b")
Three = namedtuple("Three", "a b c")
Five = namedtuple("Five", "a b c d e")


class OwnInt(int):
    """An integer of a class of its own."""


class OwnStr(str):
    """A string of a class of its own."""


def tour_of(many, rounds=(), bye=0, barred=(), stays=None):
    """A tour in which, where nothing else is said, all are there all the time."""
    if stays is None:
        stays = ((0, 12),) * many
    return Tour(many, bye, barred, stays, rounds)


def any_values():
    """Values of every kind: integers, bools, None, strings, objects, lists and tuples of these."""
    tour = tour_of(2)
    deep = ()
    for _ in range(60):
        deep = (deep,)
    return [
        0, 1, -1, 10 ** 12 - 1, -(10 ** 12 - 1), True, False, None, "", "round", "(0, 1)", "x" * 4000,
        tour, RoundError(), [], [()], [(0, 1)], [[0, 1]], (None,), ("",), (True,), (False,), (tour,),
        ((),), ((), ()), ([],), ((0,),), ((0, 1, 2),), ([0, 1],), (0, (0, 1)), ((0, 1), 0), ((0, "1"),),
        ((0, None),), ((True, 2),), ((0, True),), ((False, True),), ((False, 1),), ((0, tour),), deep,
        (0,) * 30000, ((0, 1),) * 15000, tuple(range(30000)), [0] * 30000,
    ]


class OwnTuple(tuple):
    """A tuple of a class of its own."""


def of_own(value):
    """The same integer, bool, string or tuple of such, of classes of its own where there can be such."""
    if isinstance(value, tuple):
        return OwnTuple(of_own(part) for part in value)
    if isinstance(value, str):
        return OwnStr(value)
    return value if isinstance(value, bool) else OwnInt(value)


def is_plain(value):
    """Whether value is an integer or a tuple of integers and such tuples, of no class of its own."""
    if type(value) is tuple:
        return all(is_plain(part) for part in value)
    return type(value) is int


def is_all_plain(value):
    """Whether value is an integer, a bool, None, a string or a tuple of these, of no class of its own."""
    if type(value) is tuple:
        return all(is_all_plain(part) for part in value)
    return value is None or type(value) in (int, bool, str)


def same_kinds(one, other):
    """Whether two plain values are equal with bools and integers at the same places."""
    return repr(one) == repr(other)


def drawn_tour(draw, points=(-1, 0, 1, 2)):
    """A tour with drawn stays, barred pairs and rounds; draw is a random.Random."""
    many = draw.randint(1, 6)
    pairs = list(combinations(range(many), 2))
    barred = tuple(pair for pair in pairs if draw.random() < draw.choice([0, 0.1, 0.5]))
    length = draw.randint(0, 6)
    stays = []
    for _ in range(many):
        first = draw.choice([0, 0, 0, draw.randint(0, length)])
        stays.append((first, draw.choice([12, 12, 12, draw.randint(first, 12)])))
    rounds = []
    met = list(barred)
    left = 7
    for r in range(length):
        games = []
        seated = []
        draw.shuffle(pairs)
        for a, b in pairs[:draw.randint(0, len(pairs))]:
            if any(not stays[x][0] <= r < stays[x][1] or x in seated for x in (a, b)) or (a, b) in met:
                continue
            got = draw.choice(points if left else (0, 1, 2))
            left -= got == -1
            games.append((a, b, got))
            met.append((a, b))
            seated += [a, b]
        rounds.append(tuple(sorted(games)))
    return Tour(many, draw.randint(0, 2), barred, tuple(stays), tuple(rounds))


def drawn_tours(seed, number):
    """So many drawn tours, the same for each call with the same seed."""
    draw = random.Random(seed)
    return [drawn_tour(draw) for _ in range(number)]


def tours_with_open(seed, open_games, number):
    """So many drawn tours with just so many open games."""
    draw = random.Random(seed)
    found = []
    while len(found) < number:
        tour = drawn_tour(draw, draw.choice([(-1,), (-1, 0, 1, 2), (-1, -1, -1, 0, 2)]))
        if sum(1 for games in tour.rounds for game in games if game[2] == -1) == open_games:
            found.append(tour)
    return found


def later(tour, by):
    """The tour with so many rounds ahead of all others in which nobody is there."""
    stays = tuple((min(12, first + by), min(12, last + by)) for first, last in tour.stays)
    return Tour(tour.many, tour.bye, tour.barred, stays, ((),) * by + tour.rounds)


def in_place(value, at, new):
    """The tuple with something new at this place."""
    return value[:at] + (new,) + value[at + 1:]


def subsets(parts):
    """All sets of these parts, as tuples."""
    parts = list(parts)
    return list(chain(*[combinations(parts, size) for size in range(len(parts) + 1)]))


def here_next(tour, behind=0):
    """Who is there in the next round, or so many rounds behind it."""
    r = len(tour.rounds) + behind
    return [x for x in range(tour.many) if tour.stays[x][0] <= r and r < tour.stays[x][1]]


def slow_may_meet(tour):
    here = here_next(tour)
    games = list(chain(*tour.rounds))
    return tuple(
        pair for pair in combinations(here, 2)
        if pair not in tour.barred and not any(game[:2] == pair for game in games)
    )


def slow_rests(tour, player):
    """In how many of the rounds the player rests."""
    return sum(
        1 for r, games in enumerate(tour.rounds)
        if tour.stays[player][0] <= r < tour.stays[player][1]
        and not any(player in game[:2] for game in games)
    )


def slow_may_rest(tour):
    return tuple(x for x in here_next(tour) if slow_rests(tour, x) == 0)


def slow_rounds_of(here, pairs, resters):
    """All full rounds of those who are here, sorted: every set of such pairs is looked at."""
    found = []
    for chosen in combinations(pairs, len(here) // 2):
        seated = [x for pair in chosen for x in pair]
        left = [x for x in here if x not in seated]
        if len(set(seated)) == len(seated) and all(x in resters for x in left):
            found.append(chosen)
    return sorted(found)


def slow_full_rounds(tour):
    """All full rounds, sorted."""
    return slow_rounds_of(here_next(tour), slow_may_meet(tour), slow_may_rest(tour))


def with_rounds(tour, rounds):
    """The tour with these rounds of open games behind it, also where a Tour refuses them."""
    games = tuple(tuple((a, b, -1) for a, b in pairs) for pairs in rounds)
    return SimpleNamespace(
        many=tour.many, bye=tour.bye, barred=tour.barred, stays=tour.stays, rounds=tour.rounds + games)


def slow_further(tour, k, ahead=()):
    """The first tuple of k further rounds, or None: they are tried in order."""
    if len(ahead) == k:
        return ahead
    for pairs in slow_full_rounds(with_rounds(tour, ahead)):
        found = slow_further(tour, k, ahead + (pairs,))
        if found is not None:
            return found
    return None


def slow_led_to(tour, t, stand):
    """All stands to which full rounds from a stand for t lead, sorted."""
    here = here_next(tour, t)
    gone = [*tour.barred, *stand[0], *[(a, b) for games in tour.rounds for a, b, _ in games]]
    pairs = [pair for pair in combinations(here, 2) if pair not in gone]
    resters = [x for x in here if slow_rests(tour, x) == 0 and x not in stand[1]]
    found = set()
    for chosen in slow_rounds_of(here, pairs, resters):
        rest = set(here) - set(chain(*chosen))
        found.add((tuple(sorted({*stand[0], *chosen})), tuple(sorted({*stand[1], *rest}))))
    return sorted(found)


def slow_stands(tour, k):
    """For each t from 0 to k the stands that can be come to, sorted."""
    levels = [(((), ()),)]
    for t in range(k):
        levels.append(tuple(sorted({new for old in levels[t] for new in slow_led_to(tour, t, old)})))
    return tuple(levels)


def slow_are_walls(tour, k, value):
    """Whether value is walls for k; value is a tuple of integers and such tuples."""
    if len(value) != k + 1 or ((), ()) not in value[0] or value[k] != ():
        return False
    pairs = list(combinations(range(tour.many), 2))
    for stands in value:
        if list(stands) != sorted(set(stands)):
            return False
        for met, rested in stands:
            if list(met) != sorted(set(met) & set(pairs)):
                return False
            if list(rested) != sorted(set(rested) & set(range(tour.many))):
                return False
    return all(new in value[t + 1] for t in range(k) for old in value[t] for new in slow_led_to(tour, t, old))


def apart(pairs):
    """Whether no player is in two of the pairs."""
    seated = list(chain(*pairs))
    return len(seated) == len(set(seated))


@lru_cache(maxsize=None)
def slow_are_enough(pairs, k):
    """Whether the pairs can be put into k rounds: every round with the first pair is tried."""
    if not pairs or k == 0:
        return not pairs
    for size in range(3):
        for others in combinations(pairs[1:], size):
            chosen = (pairs[0],) + others
            left = tuple(pair for pair in pairs if pair not in chosen)
            if apart(chosen) and slow_are_enough(left, k - 1):
                return True
    return False


def slow_rounds_to_meet(tour):
    """How many meeting rounds are needed: one number is tried behind the other."""
    pairs = slow_may_meet(tour)
    return [k for k in range(len(pairs) + 1) if slow_are_enough(pairs, k)][0]


def slow_is_crowd(tour, k, players):
    """Whether an ascending tuple of players is a crowd for k."""
    pairs = slow_may_meet(tour)
    m = len(players)
    if k < 1 or m % 2 == 0:
        return False
    if m == 1:
        return sum(1 for a, b in pairs if a == players[0] or b == players[0]) >= k
    return 2 * sum(1 for pair in combinations(players, 2) if pair in pairs) > (k - 1) * (m - 1)


def slow_open_games(tour):
    return tuple(
        (r, a, b) for r in range(len(tour.rounds)) for a, b in combinations(range(tour.many), 2)
        if (a, b, -1) in tour.rounds[r]
    )


def all_outcomes(tour):
    """All outcomes, sorted."""
    return sorted(product((2, 0, 1), repeat=len(slow_open_games(tour))))


def come_out(tour, outcomes):
    """The tour with its open games come out so."""
    told = dict(zip(slow_open_games(tour), outcomes))
    rounds = tuple(
        tuple((a, b, told.get((r, a, b), won)) for a, b, won in games)
        for r, games in enumerate(tour.rounds)
    )
    return Tour(tour.many, tour.bye, tour.barred, tour.stays, rounds)


def slow_points(tour):
    """The points of all players, told one by one."""
    games = [game for games in tour.rounds for game in games if game[2] != -1]
    return tuple(
        sum(won for a, b, won in games if a == x) + sum(2 - won for a, b, won in games if b == x)
        + tour.bye * slow_rests(tour, x)
        for x in range(tour.many)
    )


def slow_ends(tour):
    """A dict of the final points of all outcomes, the outcomes sorted."""
    return {outcomes: slow_points(come_out(tour, outcomes)) for outcomes in all_outcomes(tour)}


def slow_bars_target(tour, target, word, players):
    """Whether a set of players has too much ("much") or too little ("little") in the target."""
    have = sum(target[x] for x in players)
    now = sum(slow_points(tour)[x] for x in players)
    members = [len({a, b} & set(players)) for r, a, b in slow_open_games(tour)]
    if word == "much":
        return have > now + 2 * (members.count(1) + members.count(2))
    return have < now + 2 * members.count(2)


def slow_is_first(got, player, alone):
    """Whether the player is first (alone) with these points of all."""
    if alone:
        return [x for x in range(len(got)) if got[x] >= got[player]] == [player]
    return got[player] == max(got)


def slow_most(tour, player):
    """The most of a player: its points now and 2 for each of its open games."""
    return slow_points(tour)[player] + 2 * sum(1 for r, a, b in slow_open_games(tour) if player in (a, b))


def slow_are_bound(tour, player, alone, others):
    """Whether others, an ascending tuple of players, are bound to pass the player."""
    if not others or player in others:
        return False
    inner = sum(1 for r, a, b in slow_open_games(tour) if a in others and b in others)
    together = sum(slow_points(tour)[x] for x in others) + 2 * inner
    return together > len(others) * (slow_most(tour, player) - alone)


def slow_rank(got, player):
    return 1 + sum(1 for had in got if had > got[player])


def slow_agreeing(many, pairs):
    """All orders that have the better one of each pair ahead, sorted."""
    return sorted(
        order for order in permutations(range(many)) if not any((b, a) in pairs for a, b in combinations(order, 2)))


def slow_closure(pairs):
    """The pairs and all that follow from them, sorted: they are joined until nothing is new."""
    told = set(pairs)
    while True:
        new = {(a, d) for a, b in told for c, d in told if b == c} - told
        if not new:
            return tuple(sorted(told))
        told |= new


def slow_all_known(many):
    """All known tuples of so many players, sorted: every set of pairs is looked at."""
    pairs = list(permutations(range(many), 2))
    found = []
    for some in subsets(pairs):
        if len(some) <= many * (many - 1) // 2 and slow_closure(some) == some:
            if not any(a == b for a, b in some):
                found.append(some)
    return sorted(found)


def slow_bouts(many):
    """All bout rounds, sorted."""
    return sorted(some for some in subsets(combinations(range(many), 2)) if some and apart(some))


@lru_cache(maxsize=None)
def slow_results(many, known, bouts):
    """All pairs (winners, known then), sorted: every row of winners is tried."""
    found = []
    for winners in product(*bouts):
        told = [(x, a + b - x) for (a, b), x in zip(bouts, winners)]
        then = slow_closure(known + tuple(told))
        if not any(a == b for a, b in then):
            found.append((winners, then))
    return tuple(sorted(found))


@lru_cache(maxsize=None)
def slow_settled(many, known, rank):
    return len({order[rank - 1] for order in slow_agreeing(many, known)}) == 1


@lru_cache(maxsize=None)
def slow_is_enough(many, known, rank, k):
    """Whether k bout rounds settle the rank whatever comes out: each round is tried."""
    if slow_settled(many, known, rank):
        return True
    return k > 0 and any(
        all(slow_is_enough(many, then, rank, k - 1) for _, then in slow_results(many, known, bouts))
        for bouts in slow_bouts(many)
    )


@lru_cache(maxsize=None)
def slow_least(many, known, rank):
    """The least number of bout rounds: one number is tried behind the other."""
    k = 0
    while not slow_is_enough(many, known, rank, k):
        k += 1
    return k


def slow_is_table(many, rank, rows):
    """Whether rows, pairs of something known and a number, are a table."""
    if list(rows) != sorted(set(rows)) or len({known for known, _ in rows}) < len(rows):
        return False
    told = dict(rows)
    for known, number in rows:
        if (number == 0) != slow_settled(many, known, rank):
            return False
        if number == 0:
            continue
        leads = [[told.get(then, -9) for _, then in slow_results(many, known, bouts)] for bouts in slow_bouts(many)]
        if not any(all(0 <= there <= number - 1 for there in lead) for lead in leads):
            return False
        if not all(any(there >= number - 1 for there in lead) for lead in leads):
            return False
    return True


def slow_points_of_round(tour):
    here = here_next(tour)
    return here + [tour.many] if len(here) % 2 else here


def slow_is_bar(tour, members):
    """Whether these points of the round are a bar; the parts are found by joining names."""
    nodes = [x for x in slow_points_of_round(tour) if x not in members]
    part = {x: x for x in nodes}
    ties = slow_may_meet(tour) + tuple((x, tour.many) for x in slow_may_rest(tour))
    for a, b in ties:
        if a in part and b in part:
            old, new = part[a], part[b]
            part = {x: new if name == old else name for x, name in part.items()}
    names = list(part.values())
    return sum(1 for name in set(names) if names.count(name) % 2 == 1) > len(members)


def slow_bars(tour):
    """All bars."""
    nodes = slow_points_of_round(tour)
    chosen = chain(*[combinations(nodes, size) for size in range(len(nodes) + 1)])
    return [members for members in chosen if slow_is_bar(tour, members)]


def beats_of(many, wins):
    """Beats in which the first one of each of these pairs beats the other one, and else the lesser number does."""
    rows = [[] for _ in range(many)]
    for a, b in combinations(range(many), 2):
        if (b, a) in wins:
            rows[b].append(a)
        else:
            rows[a].append(b)
    return tuple(tuple(sorted(row)) for row in rows)


def all_beats(many):
    """All beats of so many players."""
    return [beats_of(many, wins) for wins in subsets((b, a) for a, b in combinations(range(many), 2))]


def drawn_beats(draw, many):
    """Beats by a drawn order with few games turned, in circles, or drawn game by game."""
    pairs = list(permutations(range(many), 2))
    kind = draw.choice(["order", "circle", "any"])
    if kind == "any":
        return beats_of(many, draw.sample(pairs, draw.randint(0, len(pairs))))
    place = draw.sample(range(many), many)
    if kind == "circle":
        wins = [(a, b) for a, b in pairs if 0 < (place[b] - place[a]) % many <= many // 2]
        return beats_of(many, wins)
    wins = [(a, b) for a, b in pairs if place[a] < place[b]]
    turned = draw.sample(wins, draw.randint(0, min(4, len(wins))))
    return beats_of(many, [(b, a) if (a, b) in turned else (a, b) for a, b in wins])


def slow_winner(beats, draw):
    """Who wins a knock-out: the winners of both halves meet."""
    if len(draw) == 1:
        return draw[0]
    middle = len(draw) // 2
    one, other = slow_winner(beats, draw[:middle]), slow_winner(beats, draw[middle:])
    return one if other in beats[one] else other


def slow_winners(beats, players):
    """Who wins a set by some draw, sorted: both halves are won so, for every way to part the set."""
    if len(players) == 1:
        return players
    if len(players) < 8:
        return tuple(sorted({slow_winner(beats, draw) for draw in permutations(players)}))
    found = set()
    for half in combinations(players, len(players) // 2):
        other = tuple(x for x in players if x not in half)
        for x in slow_winners(beats, half):
            found |= {x for y in slow_winners(beats, other) if y in beats[x]}
    return tuple(sorted(found))


def sets_of(many):
    """All sets of 2, 4 and 8 of the players, sorted."""
    return sorted(chain(*[combinations(range(many), size) for size in (2, 4, 8)]))


def slow_are_winners(beats, value):
    """Whether value, a tuple of pairs of tuples of integers, is a winners' table."""
    if [row[:1] for row in value] != [(players,) for players in sets_of(len(beats))]:
        return False
    if any(len(row) != 2 or list(row[1]) != sorted(set(row[1]) & set(row[0])) for row in value):
        return False
    told = {players: winners for players, winners in value}
    told.update({(x,): (x,) for x in range(len(beats))})
    for players, winners in value:
        for half in combinations(players, len(players) // 2):
            other = tuple(x for x in players if x not in half)
            for x, y in product(told[half], told[other]):
                if (x if y in beats[x] else y) not in winners:
                    return False
    return True


DENIALS = {"round": "no round", "further": "not further", "reach": "not reach", "first": "passed", "sure": "open"}
CLAIM_WORDS = ("meet", *DENIALS, *DENIALS.values())


def slow_is_question(tour, value):
    """Whether a plain value is a question for the tour."""
    if type(value) is not tuple or not value or type(value[0]) is not str:
        return False
    word, *parts = value
    if word in ("round", "meet"):
        return parts == []
    if word == "further":
        return len(parts) == 1 and type(parts[0]) is int and parts[0] in range(5)
    if word == "reach":
        return (
            len(parts) == 1 and type(parts[0]) is tuple and len(parts[0]) == tour.many
            and all(type(x) is int and x in range(21) for x in parts[0])
        )
    return (
        word in ("first", "sure") and len(parts) == 2 and type(parts[0]) is int and parts[0] in range(tour.many)
        and type(parts[1]) is bool
    )


def slow_is_claim(tour, value):
    """Whether a plain value is a claim for the tour."""
    if type(value) is not tuple or not value or type(value[0]) is not str:
        return False
    if value[0] == "meet":
        return len(value) == 2 and type(value[1]) is int and value[1] >= 0
    asked = {**{word: word for word in DENIALS}, **{no: word for word, no in DENIALS.items()}}
    return value[0] in asked and slow_is_question(tour, (asked[value[0]],) + value[1:])


def claims_for(question):
    """The claims that may answer a question, of the numbers of meeting rounds those up to 7."""
    if question == ("meet",):
        return [("meet", k) for k in range(8)]
    return [question, (DENIALS[question[0]],) + question[1:]]


def slow_answer(tour, question, ends):
    """The true claim; ends are those of slow_ends."""
    word, *parts = question
    if word == "meet":
        return ("meet", slow_rounds_to_meet(tour))
    if word == "round":
        so = slow_full_rounds(tour) != []
    elif word == "further":
        so = slow_further(tour, parts[0]) is not None
    elif word == "reach":
        so = parts[0] in ends.values()
    elif word == "first":
        so = any(slow_is_first(got, *parts) for got in ends.values())
    else:
        so = all(slow_is_first(got, *parts) for got in ends.values())
    return question if so else (DENIALS[word],) + question[1:]


def slow_is_meeting(tour, value):
    """Whether value, a tuple of tuples of pairs of integers, is a meeting."""
    pairs = [pair for games in value for pair in games]
    return (
        all(games and list(games) == sorted(set(games)) and apart(games) for games in value)
        and len(pairs) == len(set(pairs)) and set(pairs) == set(slow_may_meet(tour))
    )


def slow_are_further(tour, k, value):
    return len(value) == k and all(value[t] in slow_full_rounds(with_rounds(tour, value[:t])) for t in range(k))


def slow_is_paper(tour, claim, paper, ends):
    """Whether a tuple of integers and such tuples is a paper for a claim other than "not reach"."""
    word, *parts = claim
    if word == "round":
        return paper in slow_full_rounds(tour)
    if word == "no round":
        return paper in slow_bars(tour)
    if word == "further":
        return slow_are_further(tour, parts[0], paper)
    if word == "not further":
        return slow_are_walls(tour, parts[0], paper)
    if word == "meet":
        rounds, players = paper
        good = players in subsets(range(tour.many)) and slow_is_crowd(tour, parts[0], players)
        return slow_is_meeting(tour, rounds) and len(rounds) == parts[0] and (good or (parts[0] == 0 and players == ()))
    if word == "passed":
        return paper in subsets(range(tour.many)) and slow_are_bound(tour, *parts, paper)
    if word == "sure":
        mosts = tuple(slow_most(tour, x) for x in range(tour.many))
        return paper == mosts and all(slow_is_first(got, *parts) for got in ends.values())
    if paper not in ends:
        return False
    if word == "reach":
        return ends[paper] == parts[0]
    return slow_is_first(ends[paper], *parts) == (word == "first")


def slow_holds(tour, claim, paper, ends):
    """Whether a claim for the tour has this paper, of any form."""
    if claim[0] == "not reach":
        if type(paper) is not tuple or len(paper) != 2 or paper[0] not in ("much", "little"):
            return False
        good = type(paper[0]) is str and is_plain(paper[1]) and paper[1] in subsets(range(tour.many))[1:]
        return good and slow_bars_target(tour, claim[1], *paper)
    if not is_plain(paper) or type(paper) is not tuple:
        return False
    try:
        return bool(slow_is_paper(tour, claim, paper, ends))
    except (TypeError, ValueError):
        # Not even of the form that is looked at.
        return False


def changed_ones(value):
    """All that comes of a nested tuple where one place of it is changed, cut, doubled or of another kind."""
    if type(value) is tuple:
        found = [list(value), value[::-1], value + ((),), value + (0,), ((),) + value, value + value, value[:-1], None]
        for at, part in enumerate(value):
            found += [value[:at] + value[at + 1:], value[:at] + (part,) + value[at:]]
            found += [in_place(value, at, other) for other in changed_ones(part)]
        return [other for other in found if not same_kinds(other, value)]
    if type(value) is int:
        return [value + 1, value - 1, None, str(value), (value,), -1] + [bool(value)] * (value in (0, 1))
    if type(value) is bool:
        return [not value, int(value), None, str(value), (value,)]
    return ["much", "little", "", "x" + value, value + " ", None, 0, (value,)]


def drawn_questions(draw, tour, ends, targets=3):
    """Questions of all six kinds: all but those with a target, of which there are so many."""
    found = [("round",), ("meet",)] + [("further", k) for k in range(5)]
    found += [(word, x, alone) for word in ("first", "sure") for x in range(tour.many) for alone in (False, True)]
    reached = sorted(set(ends.values()))
    for _ in range(targets):
        goals = list(draw.choice(reached))
        found.append(("reach", tuple(min(20, x) for x in goals)))
        for step in draw.choice([(1,), (-1, 1), (2, -2), (-1,)]):
            at = draw.randrange(tour.many)
            goals[at] = max(0, min(20, goals[at] + step))
        found.append(("reach", tuple(goals)))
    return found + [("reach", tuple(draw.randint(0, 20) for _ in range(tour.many)))]


def slow_edit(tour, name, *args):
    """The tour behind an edit of a desk with integers, or the error class and what the error keeps."""
    many, barred, stays, rounds = tour.many, tour.barred, tour.stays, tour.rounds
    still_open = len(slow_open_games(tour))
    r = len(rounds)
    if name == "pair":
        pairs, = args
        good = list(pairs) == sorted(set(pairs) & set(slow_may_meet(tour))) and apart(pairs)
        if not good or r == 8 or still_open + len(pairs) > 7:
            return InvalidRound, pairs
        rounds = rounds + (tuple((a, b, -1) for a, b in pairs),)
    elif name == "score":
        at, a, b, won = args
        if at not in range(r):
            return InvalidNumber, at
        old = [game for game in rounds[at] if game[:2] == (a, b)]
        if not old:
            return InvalidPairs, (a, b)
        if won not in (-1, 0, 1, 2) or (won == -1 and still_open == 7 and old[0][2] != -1):
            return InvalidNumber, won
        rounds = in_place(rounds, at, in_place(rounds[at], rounds[at].index(old[0]), (a, b, won)))
    elif name == "cancel":
        if r == 0:
            return Undefined, "rounds"
        rounds = rounds[:-1]
    elif name == "enter":
        if many == 6:
            return Undefined, "room"
        if args[0] not in range(r, 13):
            return InvalidNumber, args[0]
        many, stays = many + 1, stays + ((r, args[0]),)
    elif name == "withdraw":
        if args[0] not in range(many):
            return InvalidPlayer, args[0]
        first, last = stays[args[0]]
        stays = in_place(stays, args[0], (first if first < r else r, last if last < r else r))
    elif name == "part":
        games = [game[:2] for game in chain(*rounds)]
        if args not in combinations(range(many), 2) or args in barred or args in games:
            return InvalidPairs, args
        barred = tuple(sorted({*barred, args}))
    else:
        if args not in barred:
            return InvalidPairs, args
        barred = tuple(pair for pair in barred if pair != args)
    return Tour(many, tour.bye, barred, stays, rounds)


def small_tuples(parts, longest):
    """All tuples of these parts that are no longer than that."""
    return chain(*[product(parts, repeat=size) for size in range(longest + 1)])
