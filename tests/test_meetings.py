"""[10]: meeting rounds and crowds; promise (4)."""

import unittest
from itertools import combinations

from roundsettle.errors import Undefined
from roundsettle.meetings import crowd, crowd_holds, is_meeting, meeting, rounds_to_meet
from roundsettle.pairing import may_meet
from roundsettle.tours import Tour
from tests.helper import (
    OwnInt, Two, any_values, drawn_tours, in_place, is_plain, later, slow_is_crowd, slow_is_meeting,
    slow_may_meet, slow_rounds_to_meet, subsets, tour_of, tours_with_open,
)

AWAY = (0, 0)
ALL = (0, 12)


def barred_tours(many):
    """A tour of so many players for every set of barred pairs."""
    return [tour_of(many, barred=barred) for barred in subsets(combinations(range(many), 2))]


def free(many, *pairs):
    """A tour in which just these pairs may meet."""
    barred = tuple(pair for pair in combinations(range(many), 2) if pair not in pairs)
    return tour_of(many, barred=barred)


def tours_to_look_at():
    found = [tour for many in range(1, 5) for tour in barred_tours(many)]
    found += [tour_of(many) for many in (5, 6)] + drawn_tours(40, 400) + tours_with_open(41, 7, 30)
    return found + [later(tour, 8 - len(tour.rounds)) for tour in drawn_tours(42, 100)]


class MeetingTest(unittest.TestCase):
    def check_meeting(self, tour):
        found = meeting(tour)
        k = slow_rounds_to_meet(tour)
        self.assertEqual(len(found), k)
        self.assertTrue(slow_is_meeting(tour, found))
        self.assertTrue(is_plain(found))
        self.assertIs(is_meeting(tour, found), True)
        self.assertEqual(rounds_to_meet(tour), k)
        self.assertIs(type(rounds_to_meet(tour)), int)
        twin = Tour(tour.many, tour.bye, tour.barred, tour.stays, tour.rounds)
        self.assertEqual(meeting(tour=twin), found)
        self.assertEqual(rounds_to_meet(tour=twin), k)
        self.assertTrue(is_meeting(value=found, tour=twin))

    def test_all_may_meet(self):
        for many, k in ((1, 0), (2, 1), (3, 3), (4, 3), (5, 5), (6, 5)):
            self.assertEqual(rounds_to_meet(tour_of(many)), k)
            self.check_meeting(tour_of(many))

    def test_no_pair_may_meet(self):
        tours = [
            tour_of(1), tour_of(2, barred=((0, 1),)), tour_of(2, (((0, 1, -1),),)), tour_of(3, stays=(ALL, AWAY, AWAY)),
            tour_of(6, stays=(AWAY,) * 6), tour_of(6, barred=tuple(combinations(range(6), 2))),
        ]
        for tour in tours:
            self.assertEqual((meeting(tour), rounds_to_meet(tour)), ((), 0))
            self.assertIs(is_meeting(tour, ()), True)
            for value in (((),), ((), ()), (((0, 1),),), [], None, 0):
                self.assertIs(is_meeting(tour, value), False)

    def test_shapes(self):
        shapes = [
            (free(4, (0, 1), (2, 3)), 1), (free(4, (0, 1), (1, 2), (2, 3)), 2), (free(4, (0, 1), (0, 2), (1, 2)), 3),
            (free(4, (0, 1), (0, 3), (1, 2), (2, 3)), 2), (free(5, (0, 1), (0, 4), (1, 2), (2, 3), (3, 4)), 3),
            (free(6, (0, 1), (0, 2), (0, 3), (0, 4), (0, 5)), 5), (free(6, (0, 1), (0, 2), (1, 2), (3, 4)), 3),
            (free(6, *combinations(range(5), 2)), 5), (free(6, (0, 1), (2, 3), (4, 5)), 1),
        ]
        for tour, k in shapes:
            self.assertEqual(rounds_to_meet(tour), k)
            self.check_meeting(tour)

    def test_who_may_not_meet_is_in_no_round(self):
        tour = tour_of(6, (((0, 1, 2), (2, 3, -1)),), barred=((0, 2),), stays=(ALL, ALL, ALL, ALL, (0, 1), (2, 12)))
        self.assertEqual(may_meet(tour), ((0, 3), (1, 2), (1, 3)))
        self.check_meeting(tour)
        self.assertEqual(rounds_to_meet(tour), 2)

    def test_how_long_they_stay_does_not_matter(self):
        tour = tour_of(4, stays=((0, 1),) * 4)
        self.assertEqual(rounds_to_meet(tour), 3)
        tour = tour_of(4, ((),) * 8, stays=((8, 9),) * 4)
        self.assertEqual(rounds_to_meet(tour), 3)
        self.check_meeting(tour)

    def test_drawn_tours_and_every_set_of_barred_pairs(self):
        told = set()
        for tour in tours_to_look_at():
            self.check_meeting(tour)
            told.add(rounds_to_meet(tour))
        self.assertEqual(told, {0, 1, 2, 3, 4, 5})

    def test_every_set_of_barred_pairs_of_five(self):
        for tour in barred_tours(5):
            self.check_meeting(tour)

    def test_more_rounds_than_are_needed(self):
        for tour in tours_to_look_at()[:200]:
            alone = tuple((pair,) for pair in slow_may_meet(tour))
            self.assertIs(is_meeting(tour, alone), True)
            self.assertIs(is_meeting(tour, alone[::-1]), True)

    def test_changed_ones(self):
        holding = looked = 0
        for tour in drawn_tours(43, 200):
            found = meeting(tour)
            values = [
                found[:-1], found[1:], found + found, found[::-1], found + ((),), ((),) + found,
                found + (((0, 1),),), found + found[:1],
            ]
            for at, games in enumerate(found):
                values += [in_place(found, at, games[:-1]), in_place(found, at, games[::-1]), in_place(found, at, ())]
                values += [in_place(found, at, games + games), in_place(found, at, games + games[:1])]
                values += [found[:at] + (games[:1], games[1:]) + found[at + 1:], found[:at] + found[at + 1:]]
                for pair in combinations(range(tour.many), 2):
                    values.append(in_place(found, at, tuple(sorted({*games, pair}))))
                for place, (a, b) in enumerate(games):
                    changed = [(b, a), (a, a), (a, b, 0), (a,), (a + 1, b), (a, b + 1), (-1, b), (a, tour.many)]
                    values += [in_place(found, at, in_place(games, place, pair)) for pair in changed]
            for value in values:
                expected = slow_is_meeting(tour, value)
                self.assertIs(is_meeting(tour, value), expected, value)
                holding += expected
                looked += 1
        self.assertGreater(min(holding, looked - holding), 200)

    def test_two_rounds_put_together(self):
        tour = free(3, (0, 1), (0, 2))
        self.assertIs(is_meeting(tour, (((0, 1),), ((0, 2),))), True)
        self.assertIs(is_meeting(tour, (((0, 2),), ((0, 1),))), True)
        self.assertIs(is_meeting(tour, (((0, 1), (0, 2)),)), False)
        self.assertIs(is_meeting(tour, (((0, 1),), ((0, 2),), ())), False)
        self.assertIs(is_meeting(tour, (((0, 1),), ((0, 1),), ((0, 2),))), False)
        self.assertIs(is_meeting(tour, (((0, 1),), ((0, 2),), ((1, 2),))), False)
        self.assertIs(is_meeting(tour, (((0, 1),),)), False)
        self.assertIs(is_meeting(free(4, (0, 1), (2, 3)), (((2, 3), (0, 1)),)), False)

    def test_any_value_that_is_none(self):
        tour = tour_of(4, barred=((0, 2), (1, 2)))
        found = (((0, 1), (2, 3)), ((0, 3),), ((1, 3),))
        self.assertIs(is_meeting(tour, found), True)
        wrong = [
            list(found), [list(games) for games in found], in_place(found, 1, [(0, 3)]), in_place(found, 1, ([0, 3],)),
            in_place(found, 1, ((False, 3),)), in_place(found, 2, ((True, 3),)), in_place(found, 1, ((0, None),)),
            in_place(found, 1, (("0", "3"),)), in_place(found, 1, (0, 3)), in_place(found, 1, 3),
            in_place(found, 1, None), in_place(found, 1, "ab"), in_place(found, 1, tour), (found,), found[0],
            None, 3, True, "", tour, [], (), 0, in_place(found, 0, ((0, True), (2, 3))),
        ]
        for value in wrong + any_values():
            self.assertIs(is_meeting(tour, value), False)

    def test_tuples_of_other_classes(self):
        tour = tour_of(3, barred=((1, 2),))
        self.assertIs(is_meeting(tour, Two((Two(0, OwnInt(2)),), (Two(0, 1),))), True)
        self.assertIs(is_meeting(tour, Two((Two(0, OwnInt(1)),), (Two(0, 1),))), False)


class CrowdTest(unittest.TestCase):
    def check_crowd(self, tour):
        k = slow_rounds_to_meet(tour)
        if not slow_may_meet(tour):
            self.assertEqual(k, 0)
            with self.assertRaises(Undefined) as caught:
                crowd(tour)
            self.assertIs(type(caught.exception), Undefined)
            self.assertEqual(caught.exception.what, "crowd")
            return
        found = crowd(tour)
        self.assertTrue(slow_is_crowd(tour, k, found))
        self.assertFalse(slow_is_crowd(tour, k + 1, found))
        self.assertTrue(is_plain(found))
        self.assertEqual(list(found), sorted(set(found)))
        self.assertIs(crowd_holds(tour, k, found), True)
        self.assertIs(crowd_holds(tour, k + 1, found), False)
        twin = Tour(tour.many, tour.bye, tour.barred, tour.stays, tour.rounds)
        self.assertEqual(crowd(tour=twin), found)
        self.assertIs(crowd_holds(value=found, k=k, tour=twin), True)

    def test_drawn_tours_and_every_set_of_barred_pairs(self):
        for tour in tours_to_look_at():
            self.check_crowd(tour)

    def test_every_set_of_barred_pairs_of_five(self):
        for tour in barred_tours(5):
            self.check_crowd(tour)

    def test_all_sets_of_players(self):
        tours = [tour_of(many) for many in range(1, 7)] + drawn_tours(44, 150) + barred_tours(3)
        for tour in tours + [free(6, *combinations(range(5), 2)), free(6, (0, 1), (0, 2), (1, 2), (3, 4))]:
            need = slow_rounds_to_meet(tour)
            for k in range(-1, 8):
                taken = [some for some in subsets(range(tour.many)) if slow_is_crowd(tour, k, some)]
                for some in subsets(range(tour.many)):
                    self.assertIs(crowd_holds(tour, k, some), some in taken)
                # There is one just for what is needed, and for less.
                self.assertEqual(bool(taken), 1 <= k <= need)

    def test_one_player(self):
        tour = free(4, (0, 1), (0, 2), (0, 3))
        self.assertEqual([crowd_holds(tour, k, (0,)) for k in range(6)], [False, True, True, True, False, False])
        self.assertEqual([crowd_holds(tour, k, (1,)) for k in range(3)], [False, True, False])

    def test_three_and_five_players(self):
        tour = free(6, (0, 1), (0, 2), (1, 2), (3, 4))
        self.assertEqual([crowd_holds(tour, k, (0, 1, 2)) for k in range(5)], [False, True, True, True, False])
        self.assertEqual([crowd_holds(tour, k, (0, 1, 5)) for k in range(4)], [False, True, False, False])
        self.assertEqual([crowd_holds(tour, k, (0, 3, 5)) for k in range(3)], [False, False, False])
        self.assertEqual([crowd_holds(tour, k, (0, 1, 2, 3, 4)) for k in range(4)], [False, True, True, False])
        five = tour_of(5)
        self.assertEqual([crowd_holds(five, k, (0, 1, 2, 3, 4)) for k in range(4, 7)], [True, True, False])
        # A pair needs a round, but an even number of players is no crowd.
        for some in ((0, 1), (0, 1, 2, 3), (0, 1, 2, 3, 4, 5)):
            self.assertIs(crowd_holds(tour, 1, some), False)

    def test_players_who_are_not_there(self):
        tour = tour_of(5, stays=(ALL, ALL, AWAY, AWAY, (3, 12)))
        for value in ((0,), (1,), (0, 1, 2), (0, 1, 4), (0, 1, 2, 3, 4)):
            self.assertIs(crowd_holds(tour, 1, value), True)
            self.assertIs(crowd_holds(tour, 2, value), False)
        for value in ((2,), (0, 2, 3), (2, 3, 4), (0, 1), (0, 1, 5), (5,)):
            self.assertIs(crowd_holds(tour, 1, value), False)

    def test_values_that_are_none(self):
        tour = tour_of(4)
        for value in ((0,), (1,), (0, 1, 2), (1, 2, 3), Two(0, 1) + (2,), (OwnInt(1),), (0, OwnInt(1), 2)):
            self.assertIs(crowd_holds(tour, 3, value), True)
        wrong = [
            (), (0, 2, 1), (2, 1, 0), (0, 0, 1), (0, 0, 0), (1, 1), (0, 1, 4), (-1,), (-1, 0, 1), (4,), (6,), [0],
            [0, 1, 2], (False,), (True,), (False, 1, 2), (0, True, 2), (None,), ("0",), ((0,),), ((0, 1, 2),), 0,
            1, "0", None, True, tour, (tour,), (0, 1, None), (0, 1, "2"), (0, 1, 2, 2, 3), (0, 1, 2, 3, 4),
        ]
        for value in wrong + [value for value in any_values() if value not in ((0,), (1,))]:
            self.assertIs(crowd_holds(tour, 3, value), False)
            self.assertIs(crowd_holds(tour, 1, value), False)

    def test_any_number(self):
        tour = tour_of(4)
        self.assertIs(crowd_holds(tour, OwnInt(3), (0,)), True)
        wrong = [0, -1, -(10 ** 11), 10 ** 11, 4, True, False, None, "", "1", "3", (), (3,), [3], [], tour]
        for k in wrong + [value for value in any_values() if type(value) is not int]:
            for value in ((0,), (0, 1, 2), ()):
                self.assertIs(crowd_holds(tour, k, value), False)
        self.assertIs(crowd_holds(tour, 1, (0,)), True)
        self.assertIs(crowd_holds(tour, 1, (0, 1, 2)), True)


if __name__ == "__main__":
    unittest.main()
