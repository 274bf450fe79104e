"""[12]: who can still be first, who surely is, and the ranks; promises (6) and (7)."""

import random
import unittest

from roundsettle.errors import InvalidPlayer, Undefined
from roundsettle.finals import final
from roundsettle.firsts import first_outcomes, other_outcomes, passing, passing_holds, ranks, sure_first
from roundsettle.tours import Tour, points
from tests.helper import (
    OwnInt, Two, any_values, drawn_tours, is_plain, later, slow_are_bound, slow_ends, slow_is_first,
    slow_most, slow_points, slow_rank, small_tuples, subsets, tour_of, tours_with_open,
)

BOTH = (False, True)
SEVEN = (((0, 1, -1), (2, 3, -1), (4, 5, -1)), ((0, 2, -1), (1, 4, -1), (3, 5, -1)), ((0, 3, -1), (1, 2, 2)))


def tours_to_look_at():
    """Tours of every kind, such with no and with many open games among them."""
    found = [tour_of(many, bye=bye) for many in range(1, 7) for bye in (0, 2)]
    found += drawn_tours(70, 150) + [later(tour, 8 - len(tour.rounds)) for tour in drawn_tours(71, 30)]
    for open_games in range(1, 8):
        found += tours_with_open(72, open_games, 20 if open_games < 6 else 6)
    return found + [tour_of(6, SEVEN)]


class FirstsCase(unittest.TestCase):
    def check_undefined(self, what, call, *args):
        with self.assertRaises(Undefined) as caught:
            call(*args)
        self.assertIs(type(caught.exception), Undefined)
        self.assertEqual(caught.exception.what, what)

    def check_bound(self, tour, player, alone, found):
        """Whether what is found is others that are bound to pass."""
        self.assertIn(found, subsets(range(tour.many)))
        self.assertTrue(slow_are_bound(tour, player, alone, found))
        self.assertTrue(is_plain(found))
        self.assertIs(passing_holds(tour, player, alone, found), True)


class CanBeFirstTest(FirstsCase):
    def check(self, tour, ends, player, alone):
        """Whether the player can be first (alone); the right calls return and the others raise."""
        good = [outcomes for outcomes, got in ends.items() if slow_is_first(got, player, alone)]
        bound = [some for some in subsets(range(tour.many)) if slow_are_bound(tour, player, alone, some)]
        self.assertEqual(bool(good), not bound)
        if good:
            found = first_outcomes(tour, player, alone)
            self.assertEqual(found, good[0])
            self.assertTrue(is_plain(found))
            self.check_undefined("passing", passing, tour, player, alone)
        else:
            self.check_undefined("first", first_outcomes, tour, player, alone)
            self.check_bound(tour, player, alone, passing(tour, player, alone))
        return bool(good)

    def test_all_outcomes(self):
        told = {(alone, there): 0 for alone in BOTH for there in BOTH}
        for tour in tours_to_look_at():
            ends = slow_ends(tour)
            for player in range(tour.many):
                for alone in BOTH:
                    told[alone, self.check(tour, ends, player, alone)] += 1
        self.assertGreater(min(told.values()), 100)

    def test_one_player_alone(self):
        for tour in (tour_of(1), tour_of(1, ((), ()), bye=2), tour_of(1, stays=((0, 0),))):
            for alone in BOTH:
                self.assertEqual(first_outcomes(tour, 0, alone), ())
                self.check_undefined("passing", passing, tour, 0, alone)

    def test_no_open_game(self):
        tour = tour_of(3, (((0, 1, 2),), ((1, 2, 0),)))
        self.assertEqual(points(tour), (2, 0, 2))
        self.assertEqual(first_outcomes(tour, 0, False), ())
        self.check_undefined("first", first_outcomes, tour, 0, True)
        self.assertEqual(passing(tour, 0, True), (2,))
        self.assertEqual(first_outcomes(tour, 2, False), ())
        self.check_undefined("first", first_outcomes, tour, 1, False)
        self.assertIn(passing(tour, 1, False), [(0,), (2,), (0, 2)])

    def test_nobody_has_a_point(self):
        """With nothing to be got nobody is alone, though the bound is less than 0."""
        tour = tour_of(2)
        self.assertEqual(first_outcomes(tour, 0, False), ())
        self.check_undefined("first", first_outcomes, tour, 0, True)
        self.assertEqual(passing(tour, 0, True), (1,))
        self.assertIs(passing_holds(tour, 0, True, (1,)), True)
        self.assertIs(passing_holds(tour, 0, False, (1,)), False)

    def test_a_win_is_enough(self):
        tour = tour_of(3, (((0, 1, -1),), ((0, 2, -1),)))
        self.assertEqual(first_outcomes(tour, 0, False), (0, 2))
        self.assertEqual(first_outcomes(tour, 0, True), (1, 1))
        self.assertEqual(first_outcomes(tour, 1, False), (0, 0))
        self.assertEqual(first_outcomes(tour, 1, True), (0, 1))
        self.assertEqual(first_outcomes(tour, 2, False), (0, 0))
        self.assertEqual(first_outcomes(tour, 2, True), (1, 0))

    def test_where_no_single_player_is_bound_to_pass(self):
        """Those who have a game among them cannot both stay behind."""
        tour = tour_of(3, (((1, 2, -1),),), bye=0)
        self.check_undefined("first", first_outcomes, tour, 0, False)
        self.assertEqual(passing(tour, 0, False), (1, 2))
        for others in ((1,), (2,)):
            self.assertIs(passing_holds(tour, 0, False, others), False)
            self.assertIs(passing_holds(tour, 0, True, others), True)
        tour = tour_of(4, (((1, 2, -1),), ((1, 3, -1),), ((2, 3, -1),), ((0, 1, 1),)))
        self.assertEqual(points(tour), (1, 1, 0, 0))
        self.check_undefined("first", first_outcomes, tour, 0, False)
        self.assertEqual(passing(tour, 0, False), (1, 2))
        self.assertIs(passing_holds(tour, 0, False, (2, 3)), False)
        self.assertIs(passing_holds(tour, 0, False, (1, 2, 3)), True)

    def test_the_bound_itself_is_let(self):
        tour = tour_of(3, (((0, 1, 1),), ((1, 2, -1),), ((0, 2, 1),)))
        self.assertEqual(points(tour), (2, 1, 1))
        self.assertEqual(first_outcomes(tour, 0, False), (1,))
        self.assertIs(passing_holds(tour, 0, False, (1, 2)), False)
        self.assertEqual(passing(tour, 0, True), (1, 2))

    def test_seven_open_games(self):
        tour = tour_of(6, SEVEN)
        ends = slow_ends(tour)
        for player in range(6):
            for alone in BOTH:
                self.check(tour, ends, player, alone)

    def test_byes(self):
        for bye in range(3):
            tour = tour_of(3, (((0, 1, -1),),), bye=bye)
            ends = slow_ends(tour)
            self.assertEqual(self.check(tour, ends, 2, False), bye > 0)
            self.assertEqual(self.check(tour, ends, 2, True), bye > 1)
            self.assertTrue(self.check(tour, ends, 0, False))
            self.assertEqual(self.check(tour, ends, 0, True), bye < 2)


class PassingHoldsTest(FirstsCase):
    def test_all_sets_of_players(self):
        told = {(alone, holds): 0 for alone in BOTH for holds in BOTH}
        for tour in drawn_tours(73, 60) + tours_with_open(74, 7, 4) + tours_with_open(75, 3, 20):
            for player in range(tour.many):
                for alone in BOTH:
                    for some in subsets(range(tour.many)):
                        expected = slow_are_bound(tour, player, alone, some)
                        self.assertIs(passing_holds(tour, player, alone, some), expected)
                        told[alone, expected] += 1
        self.assertGreater(min(told.values()), 300)

    def test_not_ascending_or_twice(self):
        tour = tour_of(4, (((1, 2, 2),), ((2, 3, 0),), ((1, 3, 1),)))
        good = {some for some in subsets(range(4)) if slow_are_bound(tour, 0, False, some)}
        self.assertGreater(len(good), 4)
        for value in small_tuples(range(-1, 6), 4):
            self.assertIs(passing_holds(tour, 0, False, value), value in good, value)

    def test_values_that_are_none(self):
        tour = tour_of(4, (((1, 2, 2),), ((2, 3, 0),)))
        for good in ((1,), (3,), (1, 3)):
            self.assertIs(passing_holds(tour, 0, False, good), True)
            wrong = [
                list(good), (list(good),), (good,), good + (4,), (-1,) + good, (0,) + good, good[::-1] + (1,),
                good + good, None, (None,), "13", ("1",), (1, "3"), (True,), (True, 3), (1, None), 1, tour, (tour,),
                (1, [3]), (1, (3,)), (), [], True, False, (1, 3, 2), (3, 1),
            ]
            for value in wrong + any_values():
                if value != (2,):
                    self.assertIs(passing_holds(tour, 0, False, value), False, value)

    def test_any_player(self):
        tour = tour_of(4, (((2, 3, 1),),))
        self.assertIs(passing_holds(tour, 0, False, (2, 3)), True)
        self.assertIs(passing_holds(tour, 1, False, (2, 3)), True)
        for player in [-1, 4, True, False, None, "0", "", (0,), [0], (), tour, 10 ** 11] + any_values():
            if type(player) is int and player in (0, 1):
                continue
            for alone in BOTH:
                for value in ((2, 3), (2,), (3,), (), (0, 2, 3)):
                    if type(player) is int and player in (2, 3) and player not in value:
                        continue
                    self.assertIs(passing_holds(tour, player, alone, value), False)

    def test_alone_that_is_no_bool(self):
        tour = tour_of(3, (((0, 1, 2),),))
        self.assertIs(passing_holds(tour, 1, False, (0,)), True)
        self.assertIs(passing_holds(tour, 1, True, (0,)), True)
        for alone in [0, 1, 2, -1, None, "", "True", (), (True,), [True], tour] + any_values():
            if not isinstance(alone, bool):
                self.assertIs(passing_holds(tour, 1, alone, (0,)), False)

    def test_other_classes(self):
        tour = tour_of(3, (((0, 1, 1),),))
        self.assertIs(passing_holds(tour, OwnInt(2), False, Two(0, OwnInt(1))), True)
        self.assertIs(passing_holds(tour, OwnInt(2), False, Two(0, OwnInt(2))), False)
        self.assertIs(passing_holds(tour, OwnInt(1), True, (OwnInt(0),)), True)


class SureTest(FirstsCase):
    def check(self, tour, ends, player, alone):
        bad = [outcomes for outcomes, got in ends.items() if not slow_is_first(got, player, alone)]
        now = slow_points(tour)[player]
        mosts = [slow_most(tour, x) for x in range(tour.many)]
        by_mosts = all(mosts[x] < now or (mosts[x] == now and not alone) for x in range(tour.many) if x != player)
        self.assertEqual(by_mosts, not bad)
        self.assertIs(sure_first(tour, player, alone), not bad)
        if bad:
            found = other_outcomes(tour, player, alone)
            self.assertEqual(found, bad[0])
            self.assertTrue(is_plain(found))
        else:
            self.check_undefined("sure", other_outcomes, tour, player, alone)
        return not bad

    def test_all_outcomes(self):
        told = {(alone, sure): 0 for alone in BOTH for sure in BOTH}
        for tour in tours_to_look_at():
            ends = slow_ends(tour)
            for player in range(tour.many):
                for alone in BOTH:
                    told[alone, self.check(tour, ends, player, alone)] += 1
        self.assertGreater(min(told.values()), 50)

    def test_one_player_alone(self):
        for alone in BOTH:
            self.assertIs(sure_first(tour_of(1), 0, alone), True)
            self.check_undefined("sure", other_outcomes, tour_of(1), 0, alone)

    def test_no_open_game(self):
        tour = tour_of(3, (((0, 1, 2),), ((1, 2, 0),)))
        for player in (0, 2):
            self.assertIs(sure_first(tour, player, False), True)
            self.assertIs(sure_first(tour, player, True), False)
            self.assertEqual(other_outcomes(tour, player, True), ())
        self.assertIs(sure_first(tour, 1, False), False)
        self.assertEqual(other_outcomes(tour, 1, False), ())

    def test_the_bound_itself(self):
        """One that can come to as many is no harm, but the first one is not alone then."""
        tour = tour_of(4, (((0, 1, 2), (2, 3, -1)),))
        self.assertIs(sure_first(tour, 0, False), True)
        self.assertIs(sure_first(tour, 0, True), False)
        self.assertEqual(other_outcomes(tour, 0, True), (0,))
        tour = tour_of(4, (((0, 1, 2), (2, 3, -1)), ((0, 2, 1),)))
        self.assertEqual([slow_most(tour, x) for x in range(4)], [3, 0, 3, 2])
        self.assertIs(sure_first(tour, 0, False), True)
        self.assertEqual(other_outcomes(tour, 0, True), (2,))

    def test_its_own_open_games_count_nothing(self):
        tour = tour_of(3, (((0, 1, 2),), ((0, 2, -1),)))
        self.assertIs(sure_first(tour, 0, False), True)
        self.assertIs(sure_first(tour, 0, True), False)
        self.assertEqual(other_outcomes(tour, 0, True), (0,))
        self.assertIs(sure_first(tour, 2, False), False)
        self.assertEqual(other_outcomes(tour, 2, False), (1,))


class RanksTest(FirstsCase):
    def test_all_outcomes(self):
        told = set()
        for tour in tours_to_look_at():
            ends = slow_ends(tour)
            for player in range(tour.many):
                found = [slow_rank(got, player) for got in ends.values()]
                self.assertEqual(ranks(tour, player), (min(found), max(found)))
                self.assertTrue(is_plain(ranks(tour, player)))
                told.add(ranks(tour, player))
        self.assertGreater(len(told), 15)

    def test_ranks(self):
        self.assertEqual(ranks(tour_of(1), 0), (1, 1))
        tour = tour_of(4, (((0, 1, 2), (2, 3, 1)),))
        self.assertEqual([ranks(tour, player) for player in range(4)], [(1, 1), (4, 4), (2, 2), (2, 2)])
        tour = tour_of(4, (((0, 1, -1), (2, 3, 1)),))
        self.assertEqual([ranks(tour, player) for player in range(4)], [(1, 4), (1, 4), (1, 2), (1, 2)])
        tour = tour_of(2, (((0, 1, -1),),))
        self.assertEqual([ranks(tour, player) for player in range(2)], [(1, 2), (1, 2)])

    def test_first_ones(self):
        """The best rank is 1 just if the player can be first, the worst just if it surely is."""
        for tour in drawn_tours(76, 100):
            for player in range(tour.many):
                ends = slow_ends(tour).values()
                best, worst = ranks(tour, player)
                self.assertEqual(best == 1, any(slow_is_first(got, player, False) for got in ends))
                self.assertEqual(worst == 1, sure_first(tour, player, False))


class ArgumentsTest(FirstsCase):
    def test_wrong_players(self):
        for tour in (tour_of(1), tour_of(3), tour_of(6, SEVEN), tour_of(3, (((0, 1, 2),),))):
            wrong = [-1, tour.many, tour.many + 1, 10 ** 11, True, False, None, "", "0", (), (0,), [], [0], tour,
                     (0, 1)]
            for value in wrong + [value for value in any_values() if type(value) is not int]:
                for call in (first_outcomes, passing, sure_first, other_outcomes):
                    for alone in BOTH:
                        self.check_player(value, call, tour, value, alone)
                self.check_player(value, ranks, tour, value)

    def check_player(self, value, call, *args):
        with self.assertRaises(InvalidPlayer) as caught:
            call(*args)
        self.assertIs(type(caught.exception), InvalidPlayer)
        self.assertIs(caught.exception.value, value)

    def test_the_greatest_player(self):
        for many in range(1, 7):
            tour = tour_of(many)
            self.assertEqual(first_outcomes(tour, many - 1, False), ())
            self.assertEqual(ranks(tour, many - 1), (1, 1))
            self.check_player(many, ranks, tour, many)

    def test_names_of_parameters(self):
        tour = tour_of(3, (((0, 1, -1),), ((0, 2, -1),)))
        self.assertEqual(first_outcomes(alone=True, player=2, tour=tour), (1, 0))
        self.assertEqual(other_outcomes(alone=False, player=1, tour=tour), (1, 0))
        self.assertIs(sure_first(alone=False, player=1, tour=tour), False)
        self.assertEqual(ranks(player=1, tour=tour), (1, 3))
        stuck = tour_of(3, (((0, 1, 2),),))
        self.assertEqual(passing(alone=False, player=1, tour=stuck), (0,))
        self.assertIs(passing_holds(value=(0,), alone=False, player=1, tour=stuck), True)

    def test_equal_calls(self):
        draw = random.Random(77)
        for tour in drawn_tours(78, 120):
            twin = Tour(tour.many, tour.bye, tour.barred, tour.stays, tour.rounds)
            player = draw.randrange(tour.many)
            for alone in BOTH:
                for other in (twin, tour):
                    for call in (first_outcomes, passing, other_outcomes, sure_first):
                        self.assertEqual(
                            self.told(call, tour, player, alone), self.told(call, other, OwnInt(player), alone))
                    self.assertEqual(ranks(tour, player), ranks(other, OwnInt(player)))

    def told(self, call, *args):
        try:
            found = call(*args)
        except Undefined as error:
            return [error.what]
        self.assertTrue(type(found) is bool or is_plain(found))
        return found

    def test_outcomes_lead_where_they_are_said_to(self):
        for tour in tours_with_open(79, 4, 25):
            for player in range(tour.many):
                for alone in BOTH:
                    found = self.told(first_outcomes, tour, player, alone)
                    if found != ["first"]:
                        self.assertTrue(slow_is_first(final(tour, found), player, alone))
                    found = self.told(other_outcomes, tour, player, alone)
                    if found != ["sure"]:
                        self.assertFalse(slow_is_first(final(tour, found), player, alone))


if __name__ == "__main__":
    unittest.main()
