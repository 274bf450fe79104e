"""[5], [6]: tours, points, weights, order."""

import unittest
from itertools import combinations

from roundsettle.errors import InvalidNumber, InvalidPairs, InvalidRounds, InvalidStays
from roundsettle.tours import Tour, order, points, weights
from tests.helper import (
    Five, OwnInt, Three, Two, any_values, drawn_tours, is_plain, slow_rests, tour_of,
)

STAYS = ((0, 12), (0, 12), (0, 12), (0, 12))
GOOD = (4, 1, ((0, 1),), STAYS, (((0, 2, 1), (1, 3, -1)),))
NAMES = ("many", "bye", "barred", "stays", "rounds")


class TakenTest(unittest.TestCase):
    def check_kept(self, *told):
        tour = Tour(*told)
        for name, value in zip(NAMES, told):
            self.assertEqual(getattr(tour, name), value)
            self.assertTrue(is_plain(getattr(tour, name)))
        self.assertEqual(tour, Tour(**dict(zip(NAMES, told))))

    def test_all_numbers_of_players(self):
        for many in range(1, 7):
            for bye in range(3):
                with self.subTest(many=many, bye=bye):
                    pairs = tuple(combinations(range(many), 2))
                    stays = tuple((x, x + 6) for x in range(many))
                    self.check_kept(many, bye, (), stays, ())
                    self.check_kept(many, bye, pairs, stays, ((), ()))
                    self.check_kept(many, bye, pairs[1:], ((0, 12),) * many, (((0, 1, 2),),)[:many - 1])

    def test_bounds_of_stays(self):
        self.check_kept(3, 0, (), ((0, 0), (12, 12), (0, 12)), ())
        self.check_kept(1, 0, (), ((5, 5),), ())

    def test_seven_open_games_and_a_closed_one(self):
        games = (((0, 1, -1), (2, 3, -1), (4, 5, -1)), ((0, 2, -1), (1, 4, -1), (3, 5, -1)),
                 ((0, 3, -1), (1, 5, 0), (2, 4, 1)))
        self.check_kept(6, 2, (), ((0, 12),) * 6, games)

    def test_eight_rounds_and_empty_ones(self):
        self.check_kept(2, 0, (), ((0, 12), (0, 12)), ((),) * 8)
        self.check_kept(2, 0, (), ((7, 8), (7, 8)), ((),) * 7 + (((0, 1, 0),),))
        self.check_kept(1, 0, (), ((0, 0),), ())

    def test_all_points_of_a_game(self):
        for got in (-1, 0, 1, 2):
            self.check_kept(2, 0, (), ((0, 12), (0, 12)), (((0, 1, got),),))

    def test_there_at_the_edges_of_the_stay(self):
        self.check_kept(2, 0, (), ((1, 2), (1, 2)), ((), ((0, 1, 2),)))

    def test_drawn_tours(self):
        for tour in drawn_tours(1, 300):
            self.check_kept(*[getattr(tour, name) for name in NAMES])

    def test_tuples_of_other_classes_become_plain(self):
        barred = (Two(0, 1), Two(0, 2))
        stays = Three(Two(0, 12), Two(0, 12), Two(0, OwnInt(12)))
        rounds = ((Three(1, 2, -1),),)
        tour = Tour(OwnInt(3), OwnInt(1), Two(*barred), stays, rounds)
        self.assertEqual(tour, Tour(3, 1, ((0, 1), (0, 2)), ((0, 12),) * 3, (((1, 2, -1),),)))
        for name in NAMES:
            self.assertTrue(is_plain(getattr(tour, name)), name)

    def test_arguments_do_not_change(self):
        told = (4, 1, ((0, 1),), STAYS, (((0, 2, 1), (1, 3, -1)),))
        Tour(*told)
        self.assertEqual(told, GOOD)


class EqualTest(unittest.TestCase):
    def test_equal(self):
        self.assertEqual(Tour(*GOOD), Tour(*GOOD))
        self.assertFalse(Tour(*GOOD) != Tour(*GOOD))

    def test_one_of_five_differs(self):
        others = [
            tour_of(3), tour_of(2, bye=1), tour_of(2, barred=((0, 1),)),
            tour_of(2, stays=((0, 12), (0, 11))), tour_of(2, rounds=((),)),
        ]
        for other in others:
            self.assertFalse(tour_of(2) == other)
            self.assertTrue(tour_of(2) != other)
        others.append(tour_of(2))
        for one, other in combinations(others, 2):
            self.assertFalse(one == other)

    def test_one_of_five_differs_in_a_played_tour(self):
        others = [
            (4, 0) + GOOD[2:], GOOD[:2] + ((),) + GOOD[3:], GOOD[:3] + (STAYS[:3] + ((0, 11),), GOOD[4]),
            GOOD[:4] + ((((0, 2, 1), (1, 3, 0)),),),
        ]
        for other in others:
            self.assertFalse(Tour(*GOOD) == Tour(*other))

    def test_no_tour(self):
        tour = Tour(*GOOD)
        for value in [*any_values(), GOOD, list(GOOD), Five(*GOOD)]:
            self.assertFalse(tour == value)
            self.assertTrue(tour != value)
            self.assertFalse(value == tour)

    def test_not_iterable(self):
        for call in (iter, list, tuple, set, sorted, len):
            with self.assertRaises(TypeError):
                call(tour_of(2))
        with self.assertRaises(TypeError):
            0 in tour_of(2)
        with self.assertRaises(TypeError):
            a, b = tour_of(2)


class WrongTest(unittest.TestCase):
    def check_refused(self, error, at, value, told=GOOD):
        told = told[:at] + (value,) + told[at + 1:]
        with self.assertRaises(error) as caught:
            Tour(*told)
        self.assertIs(type(caught.exception), error)
        self.assertIs(caught.exception.value, value)
        with self.assertRaises(error):
            Tour(**dict(zip(NAMES, told)))

    def test_many(self):
        for value in [0, 7, -1, 10 ** 11, True, False, None, "4", (4,), [4], tour_of(2), ()]:
            with self.subTest(value=value):
                self.check_refused(InvalidNumber, 0, value)

    def test_many_true_is_no_one(self):
        self.check_refused(InvalidNumber, 0, True, (1, 0, (), ((0, 12),), ()))

    def test_bye(self):
        for value in [-1, 3, 10 ** 11, True, False, None, "1", (1,), [1], tour_of(2), ()]:
            with self.subTest(value=value):
                self.check_refused(InvalidNumber, 1, value)

    def test_barred(self):
        wrong = [
            None, 0, True, "", "01", [], [(0, 1)], ([0, 1],), ((0, 1), [2, 3]), tour_of(2),
            (0, 1), ((0,),), ((0, 1, 2),), ((),), (None,), ((0, None),), (("0", "1"),),
            ((0, 0),), ((3, 3),), ((1, 0),), ((0, 1), (3, 2)), ((0, 4),), ((-1, 0),), ((4, 5),),
            ((0, 1), (0, 1)), ((0, 2), (0, 1)), ((1, 2), (0, 3)), ((0, 1), (0, 3), (0, 2)),
            ((False, 1),), ((0, True),), ((0, 1), (True, 2)), ((0, (1,)),), ((tour_of(2), 1),),
        ]
        for value in wrong:
            with self.subTest(value=value):
                self.check_refused(InvalidPairs, 2, value)

    def test_stays(self):
        one = (0, 12)
        wrong = [
            None, 0, True, "", [], list(STAYS), (), STAYS[:3], STAYS + (one,), tour_of(2),
            (one, one, one, [0, 12]), (one, one, one, None), (one, one, one, ()), (one, one, one, (0,)),
            (one, one, one, (0, 1, 2)), (one, one, one, 12), (one, one, one, (0, 13)),
            (one, one, one, (13, 13)), (one, one, one, (-1, 12)), (one, one, one, (-2, -1)),
            (one, one, one, (2, 1)), (one, one, one, (12, 0)), (one, one, one, (False, 12)),
            (one, one, one, (0, True)), (one, one, one, (True, True)), (one, one, one, (0, None)),
            (one, one, one, ("0", 12)), (one, one, one, "ab"), ((2, 1), one, one, one),
        ]
        for value in wrong:
            with self.subTest(value=value):
                self.check_refused(InvalidStays, 3, value)

    def test_rounds(self):
        wrong = [
            None, 0, True, "", "ab", [], [()], ([],), (None,), (0,), ("",), tour_of(2),
            (((0, 2),),), (((0, 2, 1, 1),),), ((0, 2, 1),), (([0, 2, 1],),), ([(0, 2, 1)],), (((),),),
            (((0, 2, -2),),), (((0, 2, 3),),), (((0, 2, None),),), (((0, 2, True),),), (((0, 2, False),),),
            (((0, 2, "1"),),), (((0, 2, (1,)),),), (((False, 2, 1),),), (((0, True, 1),),),
            (((2, 0, 1),),), (((2, 2, 1),),), (((0, 4, 1),),), (((-1, 2, 1),),),
            (((1, 3, 1), (0, 2, 1)),), (((0, 2, 1), (0, 2, 1)),), ((), ((1, 3, 1), (0, 2, 1))),
        ]
        for value in wrong:
            with self.subTest(value=value):
                self.check_refused(InvalidRounds, 4, value)

    def test_any_value_for_each_argument(self):
        taken = {"many": (1,), "bye": (0, 1), "barred": (), "stays": (), "rounds": ((), ((),), ((), ()))}
        for at, error in enumerate((InvalidNumber, InvalidNumber, InvalidPairs, InvalidStays, InvalidRounds)):
            for value in any_values():
                if value == () or (not isinstance(value, bool) and value in taken[NAMES[at]]):
                    continue
                self.check_refused(error, at, value)

    def test_order_of_errors(self):
        wrong = [None, True, [], [], []]
        errors = [InvalidNumber, InvalidNumber, InvalidPairs, InvalidStays, InvalidRounds]
        for at, error in enumerate(errors):
            told = GOOD[:at] + tuple(wrong[at:])
            with self.assertRaises(error) as caught:
                Tour(*told)
            self.assertIs(type(caught.exception), error)
            self.assertIs(caught.exception.value, told[at])
            with self.assertRaises(error) as caught:
                Tour(**dict(reversed(list(zip(NAMES, told)))))
            self.assertIs(caught.exception.value, told[at])


class FitTest(unittest.TestCase):
    def check_unfit(self, many, rounds, barred=(), stays=None):
        stays = ((0, 12),) * many if stays is None else stays
        with self.assertRaises(InvalidRounds) as caught:
            Tour(many, 0, barred, stays, rounds)
        self.assertIs(caught.exception.value, rounds)

    def test_a_player_not_there(self):
        game = ((0, 1, 1),)
        for stays in (((1, 12), (0, 12)), ((0, 12), (1, 12)), ((0, 0), (0, 12)), ((0, 12), (0, 0))):
            self.check_unfit(2, (game,), stays=stays)
        self.check_unfit(2, ((), (), game), stays=((0, 2), (0, 12)))
        self.check_unfit(2, ((), (), game), stays=((0, 12), (3, 12)))
        tour_of(2, ((), (), game), stays=((2, 3), (0, 3)))

    def test_a_player_twice_in_a_round(self):
        self.check_unfit(3, (((0, 1, 1), (0, 2, 1)),))
        self.check_unfit(3, (((0, 2, 1), (1, 2, 1)),))
        self.check_unfit(3, (((0, 1, 1), (1, 2, 1)),))
        self.check_unfit(3, ((), ((0, 1, 1), (1, 2, -1))))
        self.check_unfit(2, (((0, 1, 0), (0, 1, 1)),))

    def test_a_pair_that_meets_again(self):
        self.check_unfit(2, (((0, 1, 1),), ((0, 1, 2),)))
        self.check_unfit(2, (((0, 1, 1),), (), (), ((0, 1, 1),)))
        self.check_unfit(2, (((0, 1, -1),), ((0, 1, -1),)))

    def test_a_barred_pair(self):
        self.check_unfit(2, (((0, 1, 1),),), barred=((0, 1),))
        self.check_unfit(4, ((), ((0, 1, 1), (2, 3, -1))), barred=((0, 3), (2, 3)))

    def test_eight_open_games(self):
        games = (((0, 1, -1), (2, 3, -1), (4, 5, -1)), ((0, 2, -1), (1, 4, -1), (3, 5, -1)),
                 ((0, 3, -1), (1, 5, -1), (2, 4, 1)))
        self.check_unfit(6, games)
        tour_of(6, games[:2] + (((0, 3, -1), (1, 5, 0), (2, 4, 1)),))

    def test_nine_rounds(self):
        self.check_unfit(2, ((),) * 9)
        tour_of(2, ((),) * 8)


class PointsTest(unittest.TestCase):
    def test_games(self):
        tour = tour_of(4, (((0, 1, 2), (2, 3, 1)), ((0, 2, 0), (1, 3, -1))))
        self.assertEqual(points(tour), (2, 0, 3, 1))
        self.assertEqual(weights(tour), (3, 2, 3, 3))
        self.assertEqual(order(tour), (2, 0, 3, 1))

    def test_byes(self):
        for bye in range(3):
            tour = tour_of(3, (((0, 1, 2),), ((1, 2, 1),), ()), bye=bye)
            self.assertEqual(points(tour), (2 + 2 * bye, 1 + bye, 1 + 2 * bye))

    def test_no_rest_before_the_stay_nor_behind_it(self):
        tour = tour_of(3, ((), (), ()), bye=2, stays=((0, 12), (1, 2), (2, 12)))
        self.assertEqual(points(tour), (6, 2, 2))
        tour = tour_of(2, ((), ()), bye=1, stays=((2, 12), (0, 0)))
        self.assertEqual(points(tour), (0, 0))

    def test_an_open_game_counts_for_nobody_and_is_no_rest(self):
        tour = tour_of(3, (((0, 1, -1),),), bye=2)
        self.assertEqual(points(tour), (0, 0, 2))
        self.assertEqual(weights(tour), (0, 0, 0))
        self.assertEqual(order(tour), (2, 0, 1))

    def test_weights_count_all_points_of_the_others(self):
        tour = tour_of(3, (((0, 1, 1),), ((0, 2, -1),), ((1, 2, 0),)), bye=2)
        self.assertEqual(points(tour), (3, 3, 4))
        self.assertEqual(weights(tour), (3, 7, 3))
        self.assertEqual(order(tour), (2, 1, 0))

    def test_order_by_number_last(self):
        self.assertEqual(order(tour_of(6)), (0, 1, 2, 3, 4, 5))
        tour = tour_of(4, (((0, 3, 1), (1, 2, 1)),))
        self.assertEqual(order(tour), (0, 1, 2, 3))

    def test_order_by_weight_ahead_of_number(self):
        tour = tour_of(4, (((0, 1, 2), (2, 3, 2)), ((1, 3, 2),), ((0, 2, 0),)))
        self.assertEqual(points(tour), (2, 2, 4, 0))
        self.assertEqual(weights(tour), (6, 2, 2, 6))
        self.assertEqual(order(tour), (2, 0, 1, 3))
        tour = tour_of(4, (((0, 3, 2), (1, 2, 0)), ((1, 3, 2),)))
        self.assertEqual(points(tour), (2, 2, 2, 0))
        self.assertEqual(weights(tour), (0, 2, 2, 4))
        self.assertEqual(order(tour), (1, 2, 0, 3))

    def test_one_player(self):
        tour = tour_of(1, ((), ()), bye=1)
        self.assertEqual((points(tour), weights(tour), order(tour)), ((2,), (0,), (0,)))

    def test_drawn_tours(self):
        for tour in drawn_tours(2, 500):
            games = [game for games in tour.rounds for game in games if game[2] >= 0]
            got = []
            for x in range(tour.many):
                own = sum(w for a, b, w in games if a == x) + sum(2 - w for a, b, w in games if b == x)
                got.append(own + tour.bye * slow_rests(tour, x))
            met = [[a + b - x for a, b, w in games if x in (a, b)] for x in range(tour.many)]
            weighed = [sum(got[y] for y in met[x]) for x in range(tour.many)]
            told = (points(tour), weights(tour), order(tour))
            self.assertEqual(told[0], tuple(got))
            self.assertEqual(told[1], tuple(weighed))
            self.assertEqual(sorted(told[2]), list(range(tour.many)))
            for x, y in zip(told[2], told[2][1:]):
                self.assertTrue((got[x], weighed[x], -x) > (got[y], weighed[y], -y))
            self.assertTrue(is_plain(told))
            self.assertEqual(told, (points(tour=tour), weights(tour=tour), order(tour=tour)))


if __name__ == "__main__":
    unittest.main()
