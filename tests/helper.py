"""Tours and wrong values for the tests, and slow answers written straight from the document."""

import random
from collections import namedtuple
from itertools import chain, combinations, product

from roundsettle.errors import RoundError
from roundsettle.tours import Tour

Two = namedtuple("Two", "a b")
Three = namedtuple("Three", "a b c")
Five = namedtuple("Five", "a b c d e")


class OwnInt(int):
    """An integer of a class of its own."""


def tour_of(many, rounds=(), bye=0, barred=(), stays=None):
    """A tour in which, where nothing else is said, all are there all the time."""
    if stays is None:
        stays = ((0, 12),) * many
    return Tour(many, bye, barred, stays, rounds)


def any_values():
    """Values of every kind: integers, bools, None, strings, objects, lists and tuples of these."""
    tour = tour_of(2)
    deep = ()
    for _ in range(60):
        deep = (deep,)
    return [
        0, 1, -1, 10 ** 12 - 1, -(10 ** 12 - 1), True, False, None, "", "round", "(0, 1)", "x" * 4000,
        tour, RoundError(), [], [()], [(0, 1)], [[0, 1]], (None,), ("",), (True,), (False,), (tour,),
        ((),), ((), ()), ([],), ((0,),), ((0, 1, 2),), ([0, 1],), (0, (0, 1)), ((0, 1), 0), ((0, "1"),),
        ((0, None),), ((True, 2),), ((0, True),), ((False, True),), ((False, 1),), ((0, tour),), deep,
        (0,) * 30000, ((0, 1),) * 15000, tuple(range(30000)), [0] * 30000,
    ]


def is_plain(value):
    """Whether value is an integer or a tuple of integers and such tuples, of no class of its own."""
    if type(value) is tuple:
        return all(is_plain(part) for part in value)
    return type(value) is int


def drawn_tour(draw, points=(-1, 0, 1, 2)):
    """A tour with drawn stays, barred pairs and rounds; draw is a random.Random."""
    many = draw.randint(1, 6)
    pairs = list(combinations(range(many), 2))
    barred = tuple(pair for pair in pairs if draw.random() < draw.choice([0, 0.1, 0.5]))
    length = draw.randint(0, 6)
    stays = []
    for _ in range(many):
        first = draw.choice([0, 0, 0, draw.randint(0, length)])
        stays.append((first, draw.choice([12, 12, 12, draw.randint(first, 12)])))
    rounds = []
    met = list(barred)
    left = 7
    for r in range(length):
        games = []
        seated = []
        draw.shuffle(pairs)
        for a, b in pairs[:draw.randint(0, len(pairs))]:
            if any(not stays[x][0] <= r < stays[x][1] or x in seated for x in (a, b)) or (a, b) in met:
                continue
            got = draw.choice(points if left else (0, 1, 2))
            left -= got == -1
            games.append((a, b, got))
            met.append((a, b))
            seated += [a, b]
        rounds.append(tuple(sorted(games)))
    return Tour(many, draw.randint(0, 2), barred, tuple(stays), tuple(rounds))


def drawn_tours(seed, number):
    """So many drawn tours, the same for each call with the same seed."""
    draw = random.Random(seed)
    return [drawn_tour(draw) for _ in range(number)]


def here_next(tour):
    """Who is there in the next round."""
    r = len(tour.rounds)
    return [x for x in range(tour.many) if tour.stays[x][0] <= r and r < tour.stays[x][1]]


def slow_may_meet(tour):
    here = here_next(tour)
    games = list(chain(*tour.rounds))
    return tuple(
        pair for pair in combinations(here, 2)
        if pair not in tour.barred and not any(game[:2] == pair for game in games)
    )


def slow_rests(tour, player):
    """In how many of the rounds the player rests."""
    return sum(
        1 for r, games in enumerate(tour.rounds)
        if tour.stays[player][0] <= r < tour.stays[player][1]
        and not any(player in game[:2] for game in games)
    )


def slow_may_rest(tour):
    return tuple(x for x in here_next(tour) if slow_rests(tour, x) == 0)


def slow_full_rounds(tour):
    """All full rounds, sorted: every set of pairs that may meet is looked at."""
    here = here_next(tour)
    resters = slow_may_rest(tour)
    found = []
    for pairs in combinations(slow_may_meet(tour), len(here) // 2):
        seated = [x for pair in pairs for x in pair]
        left = [x for x in here if x not in seated]
        if len(set(seated)) == len(seated) and all(x in resters for x in left):
            found.append(pairs)
    return sorted(found)


def slow_points_of_round(tour):
    here = here_next(tour)
    return here + [tour.many] if len(here) % 2 else here


def slow_is_bar(tour, members):
    """Whether these points of the round are a bar; the parts are found by joining names."""
    nodes = [x for x in slow_points_of_round(tour) if x not in members]
    part = {x: x for x in nodes}
    ties = slow_may_meet(tour) + tuple((x, tour.many) for x in slow_may_rest(tour))
    for a, b in ties:
        if a in part and b in part:
            old, new = part[a], part[b]
            part = {x: new if name == old else name for x, name in part.items()}
    names = list(part.values())
    return sum(1 for name in set(names) if names.count(name) % 2 == 1) > len(members)


def slow_bars(tour):
    """All bars."""
    nodes = slow_points_of_round(tour)
    chosen = chain(*[combinations(nodes, size) for size in range(len(nodes) + 1)])
    return [members for members in chosen if slow_is_bar(tour, members)]


def small_tuples(parts, longest):
    """All tuples of these parts that are no longer than that."""
    return chain(*[product(parts, repeat=size) for size in range(longest + 1)])
