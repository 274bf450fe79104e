"""[11]: open games, final points, outcomes that reach them or a set of players that bars it; promise (5)."""

import random
import unittest

from roundsettle.errors import InvalidOutcomes, InvalidTarget, Undefined
from roundsettle.finals import final, open_games, reach_holds, reach_paper, reaches
from roundsettle.tours import Tour, points
from tests.helper import (
    OwnInt, Three, Two, all_outcomes, any_values, come_out, drawn_tours, in_place, is_plain, later,
    slow_bars_target, slow_ends, slow_open_games, slow_points, subsets, tour_of, tours_with_open,
)

WORDS = ("much", "little")
SEVEN = (((0, 1, -1), (2, 3, -1), (4, 5, -1)), ((0, 2, -1), (1, 4, -1), (3, 5, -1)), ((0, 3, -1), (1, 2, 2)))


def wrong_targets(tour):
    """Values that are no target for the tour of three players."""
    return [
        None, 0, True, "", "000", [], [0, 0, 0], (), (0, 0), (0, 0, 0, 0), (0, 0, 21), (21, 0, 0), (0, -1, 0),
        (-1, 1, 0), (0, 0, 10 ** 11), (False, 0, 0), (0, 0, True), (0, None, 0), (0, "0", 0), (0, (0,), 0), ([0], 0, 0),
        tour, (tour, 0, 0), ((0, 0, 0),), (0, 0, [0]),
    ]


def drawn_targets(draw, tour, ends):
    """Targets that are reached, near ones and others."""
    reached = sorted(set(ends.values()))
    found = draw.sample(reached, min(3, len(reached)))
    for _ in range(3):
        near = list(draw.choice(reached))
        for _ in range(draw.choice([1, 2, 2])):
            at = draw.randrange(tour.many)
            near[at] = min(20, max(0, near[at] + draw.choice([-2, -1, 1, 2])))
        found.append(tuple(near))
    together = list(draw.choice(reached))
    for _ in range(draw.randint(1, 4)):
        one, other = draw.randrange(tour.many), draw.randrange(tour.many)
        if together[one] < 20 and together[other] > 0:
            together[one] += 1
            together[other] -= 1
    found.append(tuple(together))
    return found + [tuple(draw.randint(0, 20) for _ in range(tour.many)), reached[0], reached[-1]]


def tours_to_look_at():
    found = [tour_of(many) for many in (1, 6)] + drawn_tours(50, 200)
    found += [later(tour, 8 - len(tour.rounds)) for tour in drawn_tours(51, 40)]
    for number in range(8):
        found += tours_with_open(52, number, 8 if number < 5 else 2)
    return found


class FinalTest(unittest.TestCase):
    def test_open_games(self):
        tour = tour_of(6, (((0, 1, 0), (2, 3, -1)), (), ((0, 4, -1), (1, 2, 2), (3, 5, -1)), ((1, 3, -1),)))
        self.assertEqual(open_games(tour), ((0, 2, 3), (2, 0, 4), (2, 3, 5), (3, 1, 3)))
        self.assertEqual(open_games(tour_of(3)), ())
        self.assertEqual(open_games(tour_of(2, (((0, 1, 1),),))), ())
        self.assertEqual(len(open_games(tour_of(6, SEVEN))), 7)

    def test_drawn_open_games(self):
        for tour in tours_to_look_at():
            found = open_games(tour)
            self.assertEqual(found, slow_open_games(tour))
            self.assertEqual(list(found), sorted(set(found)))
            self.assertTrue(is_plain(found))
            self.assertEqual(open_games(tour=tour), found)

    def test_final(self):
        tour = tour_of(4, (((0, 1, 2), (2, 3, -1)), ((1, 2, -1),)), bye=1)
        self.assertEqual(points(tour), (3, 0, 0, 1))
        self.assertEqual(final(tour, (0, 0)), (3, 0, 2, 3))
        self.assertEqual(final(tour, (0, 2)), (3, 2, 0, 3))
        self.assertEqual(final(tour, (2, 0)), (3, 0, 4, 1))
        self.assertEqual(final(tour, (1, 1)), (3, 1, 2, 2))
        self.assertEqual(final(tour, (2, 1)), (3, 1, 3, 1))

    def test_no_open_game(self):
        tour = tour_of(3, (((0, 1, 1),), ((0, 2, 0),)), bye=2, stays=((0, 12), (0, 1), (1, 12)))
        self.assertEqual(final(tour, ()), (1, 1, 2))
        self.assertEqual(reaches(tour, (1, 1, 2)), ())
        self.assertEqual(final(tour_of(1), ()), (0,))

    def test_byes_and_stays(self):
        for bye in range(3):
            tour = tour_of(4, (((0, 1, -1),), ((0, 2, -1),)), bye=bye, stays=((0, 12), (0, 1), (1, 12), (1, 2)))
            self.assertEqual(final(tour, (0, 1)), (1, 2, 1, bye))
            self.assertEqual(final(tour, (2, 2)), (4, 0, 0, bye))
            tour = tour_of(3, (((0, 1, -1),), ((0, 2, -1),)), bye=bye)
            self.assertEqual(final(tour, (2, 0)), (2, bye, 2 + bye))

    def test_all_outcomes(self):
        for tour in tours_to_look_at():
            for outcomes in all_outcomes(tour)[::1 if len(open_games(tour)) < 5 else 7]:
                found = final(tour, outcomes)
                self.assertEqual(found, points(come_out(tour, outcomes)))
                self.assertEqual(found, slow_points(come_out(tour, outcomes)))
                self.assertTrue(is_plain(found))
            self.assertEqual(final(outcomes=outcomes, tour=tour), found)

    def test_wrong_outcomes(self):
        tour = tour_of(4, (((0, 1, -1), (2, 3, 1)), ((0, 2, -1),)))
        self.assertEqual(final(tour, (2, 0)), (2, 0, 3, 1))
        wrong = [
            (), (2,), (2, 0, 0), (2, 3), (3, 0), (2, -1), (-1, 0), (True, 0), (2, False), (2, None), None, 2, "", "20",
            [2, 0], [], (2, "0"), (2, (0,)), ([2], 0), tour, (tour, 0), ((2, 0),), (10 ** 11, 0), True, 0,
        ]
        for value in wrong + any_values():
            with self.assertRaises(InvalidOutcomes) as caught:
                final(tour, value)
            self.assertIs(type(caught.exception), InvalidOutcomes)
            self.assertIs(caught.exception.value, value)
        for value in any_values() + [(0,), (1,), None]:
            if value != ():
                with self.assertRaises(InvalidOutcomes):
                    final(tour_of(2), value)

    def test_outcomes_of_other_classes(self):
        tour = tour_of(4, (((0, 1, -1), (2, 3, -1)),))
        found = final(tour, Two(OwnInt(2), 1))
        self.assertEqual(found, (2, 0, 1, 1))
        self.assertTrue(is_plain(found))


class ReachTest(unittest.TestCase):
    def check_target(self, tour, ends, target):
        """Whether the target is reached; the right ones return and the others raise."""
        reached = [outcomes for outcomes, got in ends.items() if got == target]
        papers = [
            (word, some) for some in subsets(range(tour.many)) for word in WORDS
            if some and slow_bars_target(tour, target, word, some)
        ]
        self.assertEqual(bool(reached), not papers)
        if reached:
            found = reaches(tour, target)
            self.assertEqual(found, reached[0])
            self.assertTrue(is_plain(found))
            self.assertEqual(final(tour, found), target)
            self.check_undefined("paper", reach_paper, tour, target)
            return True
        self.check_undefined("reach", reaches, tour, target)
        word, players = reach_paper(tour, target)
        self.assertIn((word, players), papers)
        self.assertIs(type(reach_paper(tour, target)), tuple)
        self.assertTrue(is_plain(players))
        self.assertIs(reach_holds(tour, target, (word, players)), True)
        return False

    def check_undefined(self, what, call, *args):
        with self.assertRaises(Undefined) as caught:
            call(*args)
        self.assertIs(type(caught.exception), Undefined)
        self.assertEqual(caught.exception.what, what)

    def test_first_outcomes(self):
        tour = tour_of(6, SEVEN)
        self.assertEqual(reaches(tour, points(come_out(tour, (0,) * 7))), (0,) * 7)
        self.assertEqual(reaches(tour, points(come_out(tour, (2,) * 7))), (2,) * 7)
        ring = tour_of(3, (((0, 1, -1),), ((0, 2, -1),), ((1, 2, -1),)))
        self.assertEqual(final(ring, (1, 1, 1)), (2, 2, 2))
        self.assertEqual(final(ring, (2, 0, 2)), (2, 2, 2))
        self.assertEqual(reaches(ring, (2, 2, 2)), (0, 2, 0))
        self.assertEqual(reaches(ring, (3, 2, 1)), (1, 2, 1))

    def test_no_outcomes(self):
        tour = tour_of(3, (((0, 1, -1),), ((0, 2, 1),)))
        self.assertEqual(reaches(tour, (1, 2, 1)), (0,))
        for target in ((1, 2, 0), (1, 2, 2), (0, 3, 1), (4, 0, 1), (1, 1, 2), (0, 0, 0), (20, 20, 20), (2, 2, 0)):
            self.assertFalse(self.check_target(tour, slow_ends(tour), target))

    def test_too_much_and_too_little(self):
        tour = tour_of(3, (((0, 1, -1),), ((0, 2, 1),)))
        self.assertEqual(points(tour), (1, 0, 1))
        # More than 2 is too much for 1, and less than 1 too little for 0.
        self.assertIs(reach_holds(tour, (1, 3, 0), ("much", (1,))), True)
        self.assertIs(reach_holds(tour, (1, 2, 1), ("much", (1,))), False)
        self.assertIs(reach_holds(tour, (0, 3, 1), ("little", (0,))), True)
        self.assertIs(reach_holds(tour, (1, 2, 1), ("little", (0,))), False)
        # A game of two members gives them 2 in any case, one of one member 2 at most.
        self.assertIs(reach_holds(tour, (1, 1, 1), ("little", (0, 1))), True)
        self.assertIs(reach_holds(tour, (1, 2, 1), ("little", (0, 1))), False)
        self.assertIs(reach_holds(tour, (2, 2, 1), ("much", (0, 1))), True)
        self.assertIs(reach_holds(tour, (1, 2, 2), ("much", (1, 2))), True)
        self.assertIs(reach_holds(tour, (1, 2, 1), ("much", (1, 2))), False)
        self.assertIs(reach_holds(tour, (0, 0, 0), ("little", (1, 2))), True)
        self.assertIs(reach_holds(tour, (0, 1, 0), ("little", (1, 2))), False)

    def test_bounds_of_targets(self):
        tour = tour_of(3, (((0, 1, -1),),))
        for target in ((20, 20, 20), (0, 0, 0), (20, 0, 0), (0, 0, 20)):
            self.assertFalse(self.check_target(tour, slow_ends(tour), target))
        much = tour_of(2, ((),) * 8, bye=2)
        self.assertEqual(reaches(much, (16, 16)), ())
        self.check_target(much, slow_ends(much), (16, 15))

    def test_drawn_targets(self):
        draw = random.Random(53)
        told = {True: 0, False: 0}
        for tour in tours_to_look_at():
            ends = slow_ends(tour)
            for target in drawn_targets(draw, tour, ends):
                told[self.check_target(tour, ends, target)] += 1
        self.assertGreater(min(told.values()), 500)

    def test_all_targets_of_small_tours(self):
        """Every target with the right sum, and some with another one."""
        for tour in [tour for tour in drawn_tours(54, 300) if tour.many == 3 and open_games(tour)][:20]:
            ends = slow_ends(tour)
            total = sum(next(iter(ends.values())))
            for a in range(min(total, 7) + 1):
                for b in range(min(total - a, 7) + 1):
                    if total - a - b <= 20:
                        self.check_target(tour, ends, (a, b, total - a - b))
                        self.check_target(tour, ends, (a, b, min(20, total - a - b + 1)))

    def test_where_single_players_tell_nothing(self):
        """Each player alone could have its points, but not these together."""
        tour = tour_of(4, (((0, 1, -1), (2, 3, -1)),))
        target = (2, 2, 0, 0)
        for player in range(4):
            for word in WORDS:
                self.assertIs(reach_holds(tour, target, (word, (player,))), False)
        self.assertFalse(self.check_target(tour, slow_ends(tour), target))
        self.assertIs(reach_holds(tour, target, ("much", (0, 1))), True)
        self.assertIs(reach_holds(tour, target, ("little", (2, 3))), True)
        self.assertIs(reach_holds(tour, target, ("little", (0, 1))), False)
        self.assertIs(reach_holds(tour, target, ("much", (0, 1, 2, 3))), False)

    def test_wrong_targets(self):
        tour = tour_of(3, (((0, 1, -1),), ((0, 2, 1),)))
        for value in wrong_targets(tour) + [value for value in any_values() if value != (0, 0, 0)]:
            for call in (reaches, reach_paper):
                with self.assertRaises(InvalidTarget) as caught:
                    call(tour, value)
                self.assertIs(type(caught.exception), InvalidTarget)
                self.assertIs(caught.exception.value, value)
            for paper in (("much", (0,)), ("little", (0,)), ("much", (0, 1, 2)), ("little", (0, 1, 2)), ("little", ())):
                self.assertIs(reach_holds(tour, value, paper), False)

    def test_a_bool_is_no_points(self):
        tour = tour_of(2, (((0, 1, 1),),))
        self.assertEqual(reaches(tour, (1, 1)), ())
        for target in ((True, 1), (1, True)):
            for call in (reaches, reach_paper):
                with self.assertRaises(InvalidTarget):
                    call(tour, target)
            self.assertIs(reach_holds(tour, target, ("much", (0, 1))), False)
        self.assertIs(reach_holds(tour, (0, 1), ("little", (0,))), True)
        self.assertIs(reach_holds(tour, (False, 1), ("little", (0,))), False)

    def test_names_and_other_classes(self):
        tour = tour_of(3, (((0, 1, -1),), ((0, 2, 1),)))
        self.assertEqual(reaches(target=(1, 2, 1), tour=tour), (0,))
        self.assertEqual(reaches(tour, Three(1, OwnInt(2), 1)), (0,))
        paper = reach_paper(target=(0, 3, 1), tour=tour)
        self.assertEqual(reach_paper(tour, Three(OwnInt(0), 3, 1)), paper)
        self.assertIs(reach_holds(value=paper, target=(0, 3, 1), tour=tour), True)
        self.assertIs(reach_holds(tour, Three(0, OwnInt(3), 1), Two("much", (OwnInt(1),))), True)
        self.assertIs(reach_holds(tour, Three(0, OwnInt(3), 1), Two("much", (OwnInt(0),))), False)

    def test_equal_calls(self):
        draw = random.Random(55)
        for tour in drawn_tours(56, 60):
            twin = Tour(tour.many, tour.bye, tour.barred, tour.stays, tour.rounds)
            ends = slow_ends(tour)
            for target in drawn_targets(draw, tour, ends):
                call = reaches if target in ends.values() else reach_paper
                self.assertEqual(call(tour, target), call(twin, target))
                self.assertEqual(call(tour, target), call(tour, target))


class HoldsTest(unittest.TestCase):
    def test_all_sets_of_players(self):
        draw = random.Random(57)
        told = {(word, holds): 0 for word in WORDS for holds in (True, False)}
        for tour in drawn_tours(58, 80) + tours_with_open(59, 7, 2):
            for target in drawn_targets(draw, tour, slow_ends(tour)):
                for some in subsets(range(tour.many)):
                    for word in WORDS:
                        expected = some != () and slow_bars_target(tour, target, word, some)
                        self.assertIs(reach_holds(tour, target, (word, some)), expected)
                        told[word, expected] += 1
        self.assertGreater(min(told.values()), 500)

    def test_values_that_are_none(self):
        tour = tour_of(3, (((0, 1, -1),), ((0, 2, 1),)))
        much, little = (20, 20, 20), (0, 0, 0)
        good = [(0,), (2,), (0, 1), (1, 2), (0, 1, 2)]
        for players in good:
            self.assertIs(reach_holds(tour, much, ("much", players)), True)
            self.assertIs(reach_holds(tour, little, ("little", players)), True)
            self.assertIs(reach_holds(tour, much, ("little", players)), False)
            self.assertIs(reach_holds(tour, little, ("much", players)), False)
            wrong = [
                ["much", players], ("much", list(players)), ("much",), ("much", players, players), ("much", *players),
                (players, "much"), ("Much", players), ("much ", players), ("", players), (None, players), (0, players),
                (True, players), (("much",), players), (["much"], players), ("muc", players), ("not reach", players),
                ("much", players + (3,)), ("much", (-1,) + players), ("much", players + players), players, (players,),
                ("much", (players,)), ("much", ()), ("much", (0, 0)), ("much", (1, 0)), ("much", (2, 1, 0)),
                ("much", 0), ("much", (0, 2, 1)), ("much", "0"), ("much", ("0",)), ("much", None), ("much", (None,)),
                ("much", (3,)), ("much", (False,)), ("much", (0, True)), ("much", (True, 2)), ("much", tour),
                ("much", (tour,)), "much", (tour, players), "mu", (b"much", players), ("much", ((0,),)),
                ("reach", players),
            ]
            for value in wrong + any_values():
                self.assertIs(reach_holds(tour, much, value), False, value)
                self.assertIs(reach_holds(tour, little, value), False, value)
                if isinstance(value, tuple) and len(value) == 2 and value[0] == "much":
                    self.assertIs(reach_holds(tour, little, ("little", value[1])), False, value)

    def test_changed_papers(self):
        draw = random.Random(60)
        for tour in drawn_tours(61, 120):
            ends = slow_ends(tour)
            for target in drawn_targets(draw, tour, ends):
                if target in ends.values():
                    continue
                word, players = reach_paper(tour, target)
                values = [(word,), (word, players, players), (word, players[::-1]), (word, players + players)]
                values += [(word, players[:-1]), (word, players[1:]), ("much", players), ("little", players)]
                values += [(word, in_place(players, at, x)) for at in range(len(players)) for x in range(-1, 7)]
                for value in values:
                    some = value[1] if len(value) == 2 else ()
                    expected = some in subsets(range(tour.many)) and some != ()
                    expected = expected and slow_bars_target(tour, target, value[0], some)
                    self.assertIs(reach_holds(tour, target, value), expected)


if __name__ == "__main__":
    unittest.main()
