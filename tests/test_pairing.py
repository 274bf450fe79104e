"""[7], [8]: who may meet and rest, full rounds, bars; promises (1) and (2)."""

import unittest
from itertools import combinations, permutations

from roundsettle.errors import Undefined
from roundsettle.pairing import bar, bar_holds, full_round, is_full_round, may_meet, may_rest
from roundsettle.tours import Tour
from tests.helper import (
    OwnInt, Two, any_values, drawn_tours, here_next, is_plain, slow_bars, slow_full_rounds,
    slow_may_meet, slow_may_rest, small_tuples, tour_of,
)

AWAY = (0, 0)
ALL = (0, 12)


def met_all(many):
    """A tour of 4 or 6 players in whose rounds all pairs have met, and its rounds."""
    rounds = {
        4: (((0, 1), (2, 3)), ((0, 2), (1, 3)), ((0, 3), (1, 2))),
        6: (((0, 5), (1, 4), (2, 3)), ((0, 4), (1, 2), (3, 5)), ((0, 3), (1, 5), (2, 4)),
            ((0, 2), (1, 3), (4, 5)), ((0, 1), (2, 5), (3, 4))),
    }[many]
    return tuple(tuple((a, b, 1) for a, b in games) for games in rounds)


class MayTest(unittest.TestCase):
    def test_all_may_meet_at_first(self):
        for many in range(1, 7):
            tour = tour_of(many)
            self.assertEqual(may_meet(tour), tuple(combinations(range(many), 2)))
            self.assertEqual(may_rest(tour), tuple(range(many)))

    def test_barred_pairs(self):
        tour = tour_of(4, barred=((0, 1), (2, 3)))
        self.assertEqual(may_meet(tour), ((0, 2), (0, 3), (1, 2), (1, 3)))
        self.assertEqual(may_rest(tour), (0, 1, 2, 3))

    def test_pairs_that_have_met(self):
        tour = tour_of(4, (((0, 1, 1), (2, 3, -1)), ((0, 2, 0),)))
        self.assertEqual(may_meet(tour), ((0, 3), (1, 2), (1, 3)))
        self.assertEqual(may_rest(tour), (0, 2))
        self.assertEqual(may_meet(tour_of(4, met_all(4))), ())

    def test_players_who_are_not_there(self):
        tour = tour_of(4, ((),), stays=((0, 1), (1, 2), (2, 12), (0, 2)))
        self.assertEqual(may_meet(tour), ((1, 3),))
        self.assertEqual(may_rest(tour), (1,))
        tour = tour_of(2, ((), ()), stays=((0, 2), (3, 12)))
        self.assertEqual((may_meet(tour), may_rest(tour)), ((), ()))

    def test_players_who_have_rested(self):
        tour = tour_of(5, (((0, 1, -1), (2, 3, 0)), ((0, 4, 1), (1, 2, 2))))
        self.assertEqual(may_rest(tour), (0, 1, 2))

    def test_next_round_behind_eight(self):
        tour = tour_of(3, ((),) * 8, stays=((8, 9), (8, 12), (0, 8)))
        self.assertEqual((may_meet(tour), may_rest(tour)), (((0, 1),), (0, 1)))
        self.assertEqual(full_round(tour), ((0, 1),))

    def test_drawn_tours(self):
        for tour in drawn_tours(3, 500):
            self.assertEqual(may_meet(tour), slow_may_meet(tour))
            self.assertEqual(may_rest(tour), slow_may_rest(tour))
            self.assertTrue(is_plain((may_meet(tour), may_rest(tour))))


class FullRoundTest(unittest.TestCase):
    def test_the_first_one(self):
        self.assertEqual(full_round(tour_of(2)), ((0, 1),))
        self.assertEqual(full_round(tour_of(3)), ((0, 1),))
        self.assertEqual(full_round(tour_of(4)), ((0, 1), (2, 3)))
        self.assertEqual(full_round(tour_of(5)), ((0, 1), (2, 3)))
        self.assertEqual(full_round(tour_of(6)), ((0, 1), (2, 3), (4, 5)))
        self.assertEqual(full_round(tour_of(6, barred=((2, 3),))), ((0, 1), (2, 4), (3, 5)))
        self.assertEqual(full_round(tour_of(4, met_all(4)[:1])), ((0, 2), (1, 3)))
        self.assertEqual(full_round(tour_of(4, met_all(4)[:2])), ((0, 3), (1, 2)))
        self.assertEqual(full_round(tour_of(4, stays=(ALL, AWAY, AWAY, ALL))), ((0, 3),))

    def test_not_the_first_pair_where_it_leads_nowhere(self):
        tour = tour_of(4, barred=((2, 3),))
        self.assertEqual(full_round(tour), ((0, 2), (1, 3)))
        self.assertTrue(is_full_round(tour, ((0, 3), (1, 2))))

    def test_who_rests(self):
        tour = tour_of(3, (((0, 1, 1),), ((0, 2, 1),)))
        self.assertEqual(may_rest(tour), (0,))
        self.assertEqual(full_round(tour), ((1, 2),))
        tour = tour_of(5, barred=((0, 1), (0, 2), (0, 3), (0, 4)))
        self.assertEqual(full_round(tour), ((1, 2), (3, 4)))

    def test_nobody_is_there(self):
        tour = tour_of(3, stays=(AWAY, AWAY, (1, 12)))
        self.assertEqual(full_round(tour), ())
        self.assertTrue(is_full_round(tour, ()))
        self.assertFalse(is_full_round(tour, ((0, 1),)))

    def test_one_alone(self):
        tour = tour_of(2, stays=(AWAY, ALL))
        self.assertEqual(full_round(tour), ())
        self.assertTrue(is_full_round(tour, ()))
        self.check_none(tour_of(2, ((),), stays=(AWAY, ALL)))

    def check_none(self, tour):
        with self.assertRaises(Undefined) as caught:
            full_round(tour)
        self.assertIs(type(caught.exception), Undefined)
        self.assertEqual(caught.exception.what, "round")
        for value in [(), *any_values(), *slow_full_rounds(tour_of(tour.many))]:
            self.assertIs(is_full_round(tour, value), False)

    def test_none(self):
        self.check_none(tour_of(2, barred=((0, 1),)))
        self.check_none(tour_of(2, (((0, 1, -1),),)))
        self.check_none(tour_of(4, met_all(4)))
        self.check_none(tour_of(6, met_all(6)))
        self.check_none(tour_of(4, barred=((0, 1), (0, 2), (0, 3))))
        self.check_none(tour_of(3, ((),)))
        self.check_none(tour_of(6, barred=tuple(combinations((0, 1, 2, 3), 2))))

    def test_all_full_rounds_and_no_others(self):
        tours = [tour_of(many) for many in range(1, 7)]
        for tour in tours + drawn_tours(4, 300):
            full = slow_full_rounds(tour)
            pairs = list(combinations(range(tour.many), 2))
            for size in range(4):
                for value in combinations(pairs, size):
                    self.assertIs(is_full_round(tour, value), value in full)

    def test_values_that_are_none(self):
        tour = tour_of(4)
        wrong = [
            ((2, 3), (0, 1)), ((0, 1),), (), ((0, 1), (2, 3), (2, 3)), ((0, 1), (0, 1)), ((0, 1), (0, 2)),
            ((0, 1), (1, 2)), ((0, 1), (1, 2), (2, 3)), ((1, 0), (2, 3)), ((0, 1), (3, 2)), ((0, 0), (1, 2)),
            [(0, 1), (2, 3)], ([0, 1], (2, 3)), [[0, 1], [2, 3]], ((0, 1), [2, 3]), ((0, True), (2, 3)),
            ((False, 1), (2, 3)), ((False, True), (2, 3)), None, True, False, 0, "", "((0, 1), (2, 3))",
            ((0, 1), (2, 4)), ((0, 1), (2, 3), (4, 5)), ((0, 1, 2), (3,)), ((0, 1), (2, 3, 1)), (0, 1, 2, 3),
            ((0, 1), None), (("0", "1"), ("2", "3")), tour, tour_of(4), (tour, tour), Undefined("round"),
            (((0, 1), (2, 3)),), ((-2, -1), (0, 1)),
        ]
        for value in wrong + any_values():
            self.assertIs(is_full_round(tour, value), False)
        self.assertIs(is_full_round(tour, ((0, 1), (2, 3))), True)

    def test_the_number_that_stands_for_resting_is_in_no_pair(self):
        self.assertFalse(is_full_round(tour_of(3), ((0, 1), (2, 3))))
        self.assertFalse(is_full_round(tour_of(1), ((0, 1),)))

    def test_tuples_of_other_classes(self):
        tour = tour_of(4)
        self.assertTrue(is_full_round(tour, Two(Two(0, 1), Two(2, OwnInt(3)))))
        self.assertFalse(is_full_round(tour, Two(Two(2, 3), Two(0, 1))))

    def test_returned_ones_hold(self):
        for tour in drawn_tours(5, 500):
            full = slow_full_rounds(tour)
            if not full:
                with self.assertRaises(Undefined):
                    full_round(tour)
                continue
            found = full_round(tour)
            self.assertEqual(found, full[0])
            self.assertTrue(is_plain(found))
            self.assertTrue(is_full_round(tour, found))
            self.assertEqual(found, full_round(tour=tour))
            self.assertTrue(is_full_round(value=found, tour=tour))
            self.assertEqual(found, full_round(Tour(tour.many, 0, tour.barred, tour.stays, tour.rounds)))
            self.check_changed(tour, found, full)

    def check_changed(self, tour, found, full):
        changed = [found[:-1], found + found, found[::-1], found + ((0, 1),), ((0, 1),) + found]
        changed += [tuple(order) for order in permutations(found)]
        changed += [found[:at] + found[at + 1:] for at in range(len(found))]
        for value in changed:
            self.assertIs(is_full_round(tour, value), value in full)
        if found:
            for value in (list(found), (list(found[0]),) + found[1:], (found[0][::-1],) + found[1:]):
                self.assertIs(is_full_round(tour, value), False)


class BarTest(unittest.TestCase):
    def check_bar(self, tour):
        """Just one of full_round and bar returns; what it returns holds."""
        full = slow_full_rounds(tour)
        bars = slow_bars(tour)
        self.assertEqual(bool(full), not bars)
        if full:
            self.assertEqual(full_round(tour), full[0])
            with self.assertRaises(Undefined) as caught:
                bar(tour)
            self.assertIs(type(caught.exception), Undefined)
            self.assertEqual(caught.exception.what, "bar")
            return
        with self.assertRaises(Undefined):
            full_round(tour)
        found = bar(tour)
        self.assertIn(found, bars)
        self.assertTrue(is_plain(found))
        self.assertIs(bar_holds(tour, found), True)
        self.assertEqual(found, bar(tour=tour))
        self.assertIs(bar_holds(value=found, tour=tour), True)
        self.assertEqual(found, bar(Tour(tour.many, tour.bye, tour.barred, tour.stays, tour.rounds)))

    def test_where_there_is_no_full_round(self):
        tours = [
            tour_of(2, barred=((0, 1),)), tour_of(4, met_all(4)), tour_of(6, met_all(6)),
            tour_of(4, barred=((0, 1), (0, 2), (0, 3))), tour_of(3, ((),)), tour_of(1, ((),)),
            tour_of(6, barred=tuple(combinations((0, 1, 2, 3), 2))), tour_of(5, ((),)),
            tour_of(4, barred=((1, 2), (1, 3), (2, 3))),
        ]
        for tour in tours:
            self.assertEqual(slow_full_rounds(tour), [])
            self.check_bar(tour)

    def test_where_there_is_one(self):
        tours = [tour_of(many) for many in range(1, 7)]
        tours += [tour_of(2, stays=(AWAY, AWAY)), tour_of(2, stays=(AWAY, ALL)), tour_of(4, met_all(4)[:2])]
        for tour in tours:
            self.assertNotEqual(slow_full_rounds(tour), [])
            self.check_bar(tour)
            self.assertFalse(bar_holds(tour, ()))

    def test_which_ones_hold(self):
        star = tour_of(4, barred=((1, 2), (1, 3), (2, 3)))
        self.assertEqual(bar(star), (0,))
        self.assertFalse(bar_holds(star, ()))
        self.assertFalse(bar_holds(star, (1,)))
        self.assertFalse(bar_holds(star, (0, 1)))
        two = tour_of(2, barred=((0, 1),))
        self.assertTrue(bar_holds(two, ()))
        self.assertFalse(bar_holds(two, (0,)))
        self.assertFalse(bar_holds(two, (0, 1)))

    def test_the_number_that_stands_for_resting_where_they_are_odd(self):
        # 1 and 2 may meet nobody, so that both would have to rest.
        tour = tour_of(3, barred=((0, 1), (0, 2), (1, 2)))
        self.assertTrue(bar_holds(tour, (3,)))
        self.assertFalse(bar_holds(tour, ()))
        self.assertFalse(bar_holds(tour, (0,)))
        self.assertFalse(bar_holds(tour, (4,)))
        rested = tour_of(3, ((),))
        self.assertTrue(bar_holds(rested, ()))
        self.assertFalse(bar_holds(rested, (3,)))

    def test_the_number_that_stands_for_resting_where_they_are_even(self):
        tour = tour_of(4, barred=tuple(combinations(range(4), 2)))
        for value in ((), (0,), (3,)):
            self.assertTrue(bar_holds(tour, value))
        for value in ((4,), (0, 4), (0, 1), (5,)):
            self.assertFalse(bar_holds(tour, value))
        self.assertTrue(bar_holds(tour_of(4, barred=tour.barred, stays=(ALL, ALL, ALL, AWAY)), (4,)))

    def test_points_that_are_not_there(self):
        tour = tour_of(4, barred=tuple(combinations(range(4), 2)), stays=(ALL, ALL, AWAY, AWAY))
        self.assertTrue(bar_holds(tour, ()))
        for value in ((2,), (3,), (2, 3), (4,), (0, 2)):
            self.assertFalse(bar_holds(tour, value))

    def test_any_value_that_is_none(self):
        tour = tour_of(6, barred=tuple(combinations((0, 1, 2, 3), 2)))
        for value in ((4, 5), Two(4, OwnInt(5))):
            self.assertIs(bar_holds(tour, value), True)
        wrong = [
            None, True, False, 0, 4, "", "45", [], [4, 5], (5, 4), (4, 4), (4, 4, 5), (4, 5, 5), (4,), (5,), (),
            (4, 5, 6), (4, 5, 7), (-1, 4, 5), (True, 4, 5), (4, 5, None), (4, "5"), ((4, 5),), ((4,), (5,)),
            (4, [5]), tour, (tour, tour), (4, 5, tour), Undefined("bar"), (None,), ("4", "5"),
        ]
        for value in wrong + any_values():
            self.assertIs(bar_holds(tour, value), False)
        # A bool is no number, also where the number would hold.
        tour = tour_of(4, barred=((0, 2), (0, 3), (2, 3)))
        self.assertTrue(bar_holds(tour, (1,)))
        self.assertFalse(bar_holds(tour, (True,)))
        tour = tour_of(4, barred=((1, 2), (1, 3), (2, 3)))
        self.assertTrue(bar_holds(tour, (0,)))
        self.assertFalse(bar_holds(tour, (False,)))

    def test_all_sets_of_points(self):
        for tour in drawn_tours(6, 150):
            bars = slow_bars(tour)
            for value in small_tuples(range(tour.many + 2), 3):
                self.assertIs(bar_holds(tour, value), value in bars)

    def test_drawn_tours(self):
        tours = drawn_tours(7, 1500)
        for tour in tours:
            self.check_bar(tour)
        # Both must occur often, with those who are there odd as well as even.
        for odd in (0, 1):
            some = [tour for tour in tours if len(here_next(tour)) % 2 == odd]
            with_full = sum(1 for tour in some if slow_full_rounds(tour))
            self.assertGreater(min(with_full, len(some) - with_full), 100)

    def test_every_bar_of_pairs(self):
        """Every set of pairs of 4 players that may not meet, with and without one who is away."""
        pairs = list(combinations(range(4), 2))
        for size in range(7):
            for barred in combinations(pairs, size):
                self.check_bar(tour_of(4, barred=barred))
                self.check_bar(tour_of(4, barred=barred, stays=(ALL, ALL, AWAY, ALL)))
                self.check_bar(tour_of(4, ((),), barred=barred, stays=(ALL, ALL, (1, 2), AWAY)))


if __name__ == "__main__":
    unittest.main()
