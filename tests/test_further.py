"""[9]: further full rounds, or walls; promise (3)."""

import random
import unittest
from itertools import combinations

from roundsettle.errors import InvalidNumber, Undefined
from roundsettle.further import further, walls, walls_hold
from roundsettle.pairing import full_round, is_full_round
from roundsettle.tours import Tour
from tests.helper import (
    OwnInt, Two, any_values, drawn_tours, in_place, is_plain, later, slow_are_walls, slow_full_rounds,
    slow_further, slow_led_to, slow_stands, subsets, tour_of, tours_with_open, with_rounds,
)

AWAY = (0, 0)
ALL = (0, 12)
START = ((), ())
WRONG_NUMBERS = [-1, 5, 10 ** 11, -(10 ** 11), True, False, None, "", "2", (), (2,), [2], [], tour_of(2)]


def tours_to_look_at():
    """Tours of every kind: drawn ones, such with 8 rounds, such with many open games."""
    found = [tour_of(many) for many in range(1, 7)]
    found += drawn_tours(20, 400)
    found += [later(tour, 8 - len(tour.rounds)) for tour in drawn_tours(21, 150)]
    return found + tours_with_open(22, 6, 40) + tours_with_open(22, 7, 60)


def tours_with_walls(seed, number):
    """Pairs of a tour and the least k such that it has no k further rounds, where it is at most 4."""
    found = []
    for tour in drawn_tours(seed, number):
        for k in range(1, 5):
            if slow_further(tour, k) is None:
                found.append((tour, k))
                break
    return found


class FurtherTest(unittest.TestCase):
    def test_none_more_is_always_there(self):
        for tour in tours_to_look_at():
            self.assertEqual(further(tour, 0), ())
            with self.assertRaises(Undefined) as caught:
                walls(tour, 0)
            self.assertEqual(caught.exception.what, "walls")

    def test_four_players(self):
        rounds = (((0, 1), (2, 3)), ((0, 2), (1, 3)), ((0, 3), (1, 2)))
        for k in range(4):
            self.assertEqual(further(tour_of(4), k), rounds[:k])
        self.check_none(tour_of(4), 4)

    def test_an_odd_number_of_players(self):
        self.assertEqual(further(tour_of(3), 3), (((0, 1),), ((0, 2),), ((1, 2),)))
        self.check_none(tour_of(3), 4)
        self.assertEqual(further(tour_of(5), 2), (((0, 1), (2, 3)), ((0, 2), (1, 4))))

    def test_one_alone_rests_once(self):
        self.assertEqual(further(tour_of(1), 1), ((),))
        self.check_none(tour_of(1), 2)
        self.check_none(tour_of(1, ((),)), 1)
        self.assertEqual(walls(tour_of(1), 2), ((START,), (((), (0,)),), ()))

    def test_who_rests_in_a_further_round_rests_no_more(self):
        tour = tour_of(3, barred=((0, 2),))
        self.assertEqual(further(tour, 2), (((0, 1),), ((1, 2),)))
        # 1 could rest only where 0 and 2 meet.
        self.check_none(tour, 3)
        # 0 rests in the first round, and it is there alone in the second one.
        self.check_none(tour_of(3, barred=((0, 1), (0, 2)), stays=(ALL, (0, 1), (0, 1))), 2)
        tour = tour_of(3, barred=((0, 2),), stays=(ALL, (0, 1), (0, 1)))
        self.assertEqual(further(tour, 2), (((0, 1),), ()))

    def test_players_who_come_and_leave(self):
        tour = tour_of(4, stays=((0, 2), (0, 1), (1, 12), (3, 3)))
        self.assertEqual(further(tour, 3), (((0, 1),), ((0, 2),), ()))
        self.check_none(tour, 4)
        tour = tour_of(4, ((),), stays=((1, 2), (1, 4), (2, 3), (3, 5)))
        self.assertEqual(further(tour, 4), (((0, 1),), ((1, 2),), ((1, 3),), ()))

    def test_nobody_is_there(self):
        self.assertEqual(further(tour_of(3, stays=(AWAY,) * 3), 4), ((), (), (), ()))
        tour = tour_of(2, ((),) * 8, stays=((8, 10), (9, 9)))
        self.assertEqual(further(tour, 1), ((),))
        self.check_none(tour, 2)
        self.assertEqual(further(tour_of(1, ((),) * 8, stays=((11, 12),)), 4), ((), (), (), ()))

    def test_not_the_first_round_where_it_leads_nowhere(self):
        tour = tour_of(4, barred=((0, 3),), stays=(ALL, ALL, ALL, (0, 1)))
        self.assertEqual(full_round(tour), ((0, 1), (2, 3)))
        self.assertEqual(further(tour, 2), (((0, 1), (2, 3)), ((0, 2),)))
        tour = tour_of(4, stays=((0, 2), (0, 2), (0, 1), (0, 1)))
        self.assertEqual(full_round(tour), ((0, 1), (2, 3)))
        self.assertEqual(further(tour, 2), (((0, 2), (1, 3)), ((0, 1),)))

    def test_eight_rounds_and_seven_open_games(self):
        tour = tour_of(2, ((),) * 8, stays=((8, 12), (8, 12)))
        self.assertEqual(further(tour, 1), (((0, 1),),))
        open_games = (((0, 1, -1), (2, 3, -1), (4, 5, -1)), ((0, 2, -1), (1, 4, -1), (3, 5, -1)), ((0, 3, -1),))
        tour = tour_of(6, open_games, stays=(ALL, (0, 2), (0, 2), ALL, (0, 2), (0, 2)), barred=())
        self.assertEqual(further(tour, 0), ())
        self.check_none(tour, 1)
        tour = tour_of(6, open_games[:2] + (((0, 3, -1), (1, 5, 2), (2, 4, 0)),))
        self.assertEqual(further(tour, 1), (((0, 4), (1, 3), (2, 5)),))
        self.assertEqual(further(tour, 2), (((0, 4), (1, 3), (2, 5)), ((0, 5), (1, 2), (3, 4))))

    def check_none(self, tour, k):
        self.assertIsNone(slow_further(tour, k))
        with self.assertRaises(Undefined) as caught:
            further(tour, k)
        self.assertIs(type(caught.exception), Undefined)
        self.assertEqual(caught.exception.what, "further")
        found = walls(tour, k)
        self.assertTrue(slow_are_walls(tour, k, found))
        self.assertTrue(is_plain(found))
        self.assertIs(walls_hold(tour, k, found), True)

    def test_against_a_slow_answer(self):
        there = not_there = 0
        for tour in tours_to_look_at():
            for k in range(5):
                rounds = slow_further(tour, k)
                if rounds is None:
                    not_there += 1
                    self.check_none(tour, k)
                    continue
                there += 1
                found = further(tour, k)
                self.assertEqual(found, rounds)
                self.assertTrue(is_plain(found))
                with self.assertRaises(Undefined) as caught:
                    walls(tour, k)
                self.assertEqual(caught.exception.what, "walls")
        self.assertGreater(min(there, not_there), 200)

    def test_each_is_a_full_round_of_the_tour_with_those_ahead(self):
        for tour in drawn_tours(23, 60):
            for k in range(5):
                rounds = slow_further(tour, k)
                if rounds is None:
                    continue
                for t, pairs in enumerate(further(tour, k)):
                    games = tuple(tuple((a, b, 1) for a, b in ahead) for ahead in rounds[:t])
                    self.assertIn(pairs, slow_full_rounds(with_rounds(tour, rounds[:t])))
                    if len(tour.rounds) + t <= 8:
                        grown = Tour(tour.many, tour.bye, tour.barred, tour.stays, tour.rounds + games)
                        self.assertTrue(is_full_round(grown, pairs))

    def test_one_further_round_is_the_full_round(self):
        for tour in drawn_tours(24, 100):
            full = slow_full_rounds(tour)
            if full:
                self.assertEqual(further(tour, 1), (full_round(tour),))
            else:
                self.check_none(tour, 1)

    def test_rounds_of_nobody_ahead_change_nothing(self):
        for tour in drawn_tours(25, 60):
            for k in range(5):
                rounds = slow_further(tour, k)
                if rounds is not None:
                    self.assertEqual(further(later(tour, 8 - len(tour.rounds)), k), rounds)

    def test_wrong_numbers(self):
        for tour in (tour_of(3), tour_of(1, ((),)), tour_of(6)):
            for call in (further, walls):
                for value in WRONG_NUMBERS:
                    with self.assertRaises(InvalidNumber) as caught:
                        call(tour, value)
                    self.assertIs(type(caught.exception), InvalidNumber)
                    self.assertIs(caught.exception.value, value)
                for value in any_values():
                    if type(value) is not int or value not in range(5):
                        with self.assertRaises(InvalidNumber):
                            call(tour, value)

    def test_names_and_other_integers(self):
        self.assertEqual(further(k=2, tour=tour_of(4)), further(tour_of(4), 2))
        self.assertEqual(further(tour_of(4), OwnInt(2)), further(tour_of(4), 2))
        self.assertEqual(walls(k=4, tour=tour_of(4)), walls(tour_of(4), 4))
        self.assertTrue(walls_hold(value=walls(tour_of(4), 4), k=4, tour=tour_of(4)))

    def test_equal_calls(self):
        for tour, k in tours_with_walls(26, 100):
            twin = Tour(tour.many, tour.bye, tour.barred, tour.stays, tour.rounds)
            self.assertEqual(walls(tour, k), walls(twin, k))
            self.assertEqual(further(tour, k - 1), further(twin, k - 1))


class WallsTest(unittest.TestCase):
    def check_all(self, tour, k, values):
        """Each value is looked at as the slow answer tells; how many hold."""
        holding = 0
        for value in values:
            expected = slow_are_walls(tour, k, value)
            self.assertIs(walls_hold(tour, k, value), expected, (k, value))
            holding += expected
        return holding

    def test_all_stands_that_can_be_come_to(self):
        for tour, k in tours_with_walls(27, 200):
            stands = slow_stands(tour, k)
            self.assertIs(walls_hold(tour, k, stands), True)
            # More rounds than that are not there either.
            for more in range(k + 1, 5):
                self.assertIs(walls_hold(tour, more, slow_stands(tour, more)), True)
                self.assertIs(walls_hold(tour, more, stands), False)
            for fewer in range(k):
                self.assertIs(walls_hold(tour, fewer, slow_stands(tour, fewer)), False)
                self.assertIs(walls_hold(tour, fewer, stands[:fewer + 1]), False)

    def test_none_for_no_round(self):
        for value in ((), ((),), ((START,),), (((),),), ((START,), ())):
            self.assertIs(walls_hold(tour_of(2), 0, value), False)

    def test_a_stand_left_out_or_twice_or_in_another_order(self):
        for tour, k in tours_with_walls(28, 150):
            found = walls(tour, k)
            values = [found[:-1], found[1:], found + ((),), found + found, found[::-1], ((),) + found]
            for t, stands in enumerate(found):
                values.append(in_place(found, t, ()))
                values.append(in_place(found, t, stands[::-1]))
                for at in range(min(4, len(stands))):
                    values.append(in_place(found, t, stands[:at] + stands[at + 1:]))
                    values.append(in_place(found, t, stands[:at] + stands[at:at + 1] + stands[at:]))
            self.check_all(tour, k, values)
            # Each stand that is returned is led to, so that none is too many.
            for t, stands in enumerate(slow_stands(tour, k)):
                for at in range(min(4, len(stands))):
                    cut = in_place(slow_stands(tour, k), t, stands[:at] + stands[at + 1:])
                    self.assertIs(walls_hold(tour, k, cut), False)

    def test_other_stands_more(self):
        """Stands that nothing leads to may stand in walls, if what they lead to does, too."""
        draw = random.Random(29)
        holding = looked = 0
        for tour, k in tours_with_walls(30, 250):
            found = walls(tour, k)
            pairs = list(combinations(range(tour.many), 2))
            for _ in range(8):
                t = draw.randrange(k + 1)
                met = tuple(sorted(draw.sample(pairs, draw.randint(0, len(pairs)))))
                rested = tuple(sorted(draw.sample(range(tour.many), draw.randint(0, tour.many))))
                alone = in_place(found, t, tuple(sorted({*found[t], (met, rested)})))
                led = alone
                for behind in range(t, k):
                    more = {new for old in led[behind] for new in slow_led_to(tour, behind, old)}
                    led = in_place(led, behind + 1, tuple(sorted({*led[behind + 1], *more})))
                holding += self.check_all(tour, k, [alone, led])
                looked += 2
        self.assertGreater(min(holding, looked - holding), 100)

    def test_a_stand_that_nothing_leads_to_is_held_to_the_same(self):
        tour = tour_of(2, barred=((0, 1),))
        found = walls(tour, 2)
        self.assertEqual(found, ((START,), (), ()))
        more = (((0, 1),), (0, 1))
        self.assertIs(walls_hold(tour, 2, ((START, more), (START, more), ())), True)
        tour = tour_of(2)
        found = walls(tour, 2)
        self.assertEqual(found, ((START,), ((((0, 1),), ()),), ()))
        # From this one they could meet in the second round.
        self.assertIs(walls_hold(tour, 2, ((START,), (START,) + found[1], ())), False)
        self.assertIs(walls_hold(tour, 2, ((START,), found[1] + ((((0, 1),), (1,)),), ())), True)

    def test_players_of_a_stand_may_be_anywhere(self):
        """Pairs that are barred, players who are not there or have rested already: any of them."""
        tour = tour_of(4, (((0, 1, 1),),), barred=((2, 3),), stays=(ALL, ALL, ALL, (0, 1)))
        self.assertEqual(walls(tour, 3)[0], (START,))
        levels = slow_stands(tour, 3)
        for met in subsets([(0, 1), (1, 3), (2, 3)]):
            for rested in subsets([0, 2, 3]):
                value = in_place(levels, 2, tuple(sorted({*levels[2], (met, rested)})))
                self.check_all(tour, 3, [value])

    def test_stands_that_are_none(self):
        tour = tour_of(4, barred=((0, 1), (0, 2), (0, 3)))
        self.assertIs(walls_hold(tour, 1, ((START,), ())), True)
        good = (((0, 1), (2, 3)), (0, 3))
        self.assertIs(walls_hold(tour, 1, ((START, good), ())), True)
        wrong = [
            (), (START,), ((),), ((), (), ()), [(), ()], ([], ()), ((), []), (good[0], [0, 3]), (list(good[0]), (0, 3)),
            (([0, 1], (2, 3)), (0, 3)), (((2, 3), (0, 1)), (0, 3)), (((0, 1), (0, 1)), ()), (((1, 0),), ()),
            (((0, 0),), ()), (((0, 4),), ()), (((-1, 0),), ()), (((0, 1, 2),), ()), (((0,),), ()), ((0, 1), ()),
            (good[0], (3, 0)), (good[0], (0, 0)), (good[0], (0, 4)), (good[0], (-1, 0)), (good[0], 0), (0, 1),
            (((0, True),), ()), (((False, 1),), ()), (good[0], (False, 3)), (good[0], (True,)), (None, ()), ((), None),
            (((0, None),), ()), (((0, "1"),), ()), ("", ""), "ab", 0, None, True, tour, [START],
            (((), ()), ()), (good[0], ((0,), (3,))),
        ]
        for stand in wrong:
            for value in (((START, stand), ()), ((stand,), ()), ((stand, START), ())):
                self.assertIs(walls_hold(tour, 1, value), False, stand)

    def test_lists_and_bools(self):
        for tour, k in tours_with_walls(31, 100):
            found = walls(tour, k)
            values = [list(found), list(map(list, found))]
            for t, stands in enumerate(found):
                values.append(in_place(found, t, list(stands)))
                for at, (met, rested) in enumerate(stands[:3]):
                    for stand in ([met, rested], (list(met), rested), (met, list(rested))):
                        values.append(in_place(found, t, in_place(stands, at, stand)))
                    for place, (a, b) in enumerate(met):
                        for pair in ([a, b], (a, bool(b)), (bool(a), b)):
                            if pair != (a, b) or type(pair[0]) is bool or type(pair[1]) is bool:
                                changed = (in_place(met, place, pair), rested)
                                values.append(in_place(found, t, in_place(stands, at, changed)))
                    for place, player in enumerate(rested):
                        if player in (0, 1):
                            changed = (met, in_place(rested, place, bool(player)))
                            values.append(in_place(found, t, in_place(stands, at, changed)))
            for value in values:
                self.assertIs(walls_hold(tour, k, value), False)

    def test_any_number(self):
        tour = tour_of(1)
        found = walls(tour, 2)
        self.assertIs(walls_hold(tour, OwnInt(2), found), True)
        for value in WRONG_NUMBERS + any_values():
            if type(value) is int and value in range(5):
                continue
            self.assertIs(walls_hold(tour, value, found), False)
        # With a bool in place of the number it is none, also where the integer is one.
        stuck = tour_of(1, ((),))
        self.assertIs(walls_hold(stuck, 1, ((START,), ())), True)
        self.assertIs(walls_hold(stuck, True, ((START,), ())), False)
        # Five rounds are more than there is a number for.
        self.assertIs(walls_hold(stuck, 4, ((START,), (), (), (), ())), True)
        self.assertIs(walls_hold(stuck, 5, ((START,), (), (), (), (), ())), False)
        self.assertIs(walls_hold(stuck, -1, ()), False)

    def test_any_value(self):
        for tour, k in ((tour_of(4), 4), (tour_of(1), 2), (tour_of(2, barred=((0, 1),)), 1), (tour_of(2), 0)):
            for value in any_values() + [Undefined("walls"), START, (START,), ((START,),), ((), (), ())]:
                self.assertIs(walls_hold(tour, k, value), False)

    def test_tuples_of_other_classes(self):
        stuck = tour_of(1, ((),))
        self.assertIs(walls_hold(stuck, 1, Two((Two((), ()),), ())), True)
        self.assertIs(walls_hold(stuck, 1, Two((Two((), ()), Two((), (OwnInt(0),))), ())), True)
        self.assertIs(walls_hold(stuck, 1, Two((Two((), ()), Two((), (OwnInt(1),))), ())), False)
        tour = tour_of(2)
        value = ((START,), Two(Two((), (OwnInt(0), 1)), Two((Two(0, 1),), ())), ())
        self.assertIs(walls_hold(tour, 2, value), slow_are_walls(tour, 2, value))
        value = ((START,), (Two((Two(0, 1),), ()),), ())
        self.assertIs(walls_hold(tour, 2, value), True)

    def test_sizes(self):
        """Many stands, and walls as long as these can be, are looked at in due time."""
        pairs = list(combinations(range(6), 2))
        many = tuple(sorted(met for met in subsets(pairs) if len(met) == 4))
        stands = tuple((met, ()) for met in many)
        tour = tour_of(6, stays=(ALL,) * 5 + ((0, 3),))
        value = ((START,),) + (stands,) * 3 + ((),)
        self.assertIs(walls_hold(tour, 4, value), False)
        away = tour_of(6, barred=tuple(pairs))
        self.assertIs(walls_hold(away, 4, ((START,),) + (stands,) * 3 + ((),)), True)


if __name__ == "__main__":
    unittest.main()
