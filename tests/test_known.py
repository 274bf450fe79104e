"""[13] and results of [14]: what is known of a hidden order, and what bout rounds tell of it."""

import random
import unittest
from itertools import chain, combinations, permutations, product

from roundsettle.errors import InvalidNumber, InvalidOrder, InvalidPairs, InvalidRound, Undefined
from roundsettle.known import is_known, known_from, results, settled
from tests.helper import (
    OwnInt, Two, any_values, in_place, is_plain, slow_agreeing, slow_all_known, slow_bouts, slow_closure,
    slow_results, slow_settled, small_tuples, subsets, tour_of,
)

WRONG_NUMBERS = [0, 5, -1, 10 ** 11, True, False, None, "", "2", (), (2,), [], [2], tour_of(2)]


class KnownCase(unittest.TestCase):
    def check_error(self, error, value, call, *args):
        with self.assertRaises(error) as caught:
            call(*args)
        self.assertIs(type(caught.exception), error)
        self.assertIs(caught.exception.value, value)

    def check_undefined(self, what, call, *args):
        with self.assertRaises(Undefined) as caught:
            call(*args)
        self.assertIs(type(caught.exception), Undefined)
        self.assertEqual(caught.exception.what, what)


class IsKnownTest(KnownCase):
    def test_how_many_there_are(self):
        self.assertEqual([len(slow_all_known(many)) for many in range(1, 5)], [1, 3, 19, 219])

    def test_all_sets_of_pairs(self):
        for many in range(1, 4):
            good = slow_all_known(many)
            for value in subsets(product(range(-1, many + 1), repeat=2) if many < 3 else product(range(3), repeat=2)):
                self.assertIs(is_known(many, value), value in good, value)

    def test_all_sets_of_pairs_of_four(self):
        good = set(slow_all_known(4))
        for value in subsets(permutations(range(4), 2)):
            self.assertIs(is_known(4, value), value in good, value)

    def test_not_ascending_or_twice(self):
        for many in (2, 3):
            good = slow_all_known(many)
            for value in small_tuples(list(permutations(range(many), 2)), 4):
                self.assertIs(is_known(many, value), value in good, value)
        for value in slow_all_known(4):
            for other in permutations(value) if len(value) < 5 else [value[::-1]]:
                self.assertIs(is_known(4, other), other == value)
            for at in range(len(value)):
                self.assertIs(is_known(4, value[:at] + value[at:at + 1] + value[at:]), False)

    def test_changed_at_one_place(self):
        draw = random.Random(80)
        good = set(slow_all_known(4))
        for value in draw.sample(sorted(good), 60):
            for at in range(len(value)):
                for pair in product(range(-1, 5), repeat=2):
                    other = in_place(value, at, pair)
                    self.assertIs(is_known(4, other), other in good, other)
                cut = value[:at] + value[at + 1:]
                self.assertIs(is_known(4, cut), cut in good, cut)

    def test_a_player_is_not_better_than_itself(self):
        for many in range(1, 5):
            for a in range(many):
                self.assertIs(is_known(many, ((a, a),)), False)
        self.assertIs(is_known(2, ((0, 0), (0, 1))), False)
        self.assertIs(is_known(2, ((0, 1), (1, 0))), False)
        self.assertIs(is_known(2, ((0, 0), (0, 1), (1, 0), (1, 1))), False)

    def test_what_follows_is_in_it(self):
        self.assertIs(is_known(3, ((0, 1), (1, 2))), False)
        self.assertIs(is_known(3, ((0, 1), (0, 2), (1, 2))), True)
        self.assertIs(is_known(4, ((0, 1), (0, 2), (0, 3), (1, 2), (1, 3), (2, 3))), True)
        self.assertIs(is_known(4, ((0, 1), (0, 2), (1, 2), (1, 3), (2, 3))), False)
        self.assertIs(is_known(4, ((0, 1), (1, 2), (2, 3), (3, 0))), False)

    def test_players_that_are_none(self):
        for many in range(1, 5):
            for pair in ((0, many), (many, 0), (-1, 0), (0, -1), (many, many + 1)):
                self.assertIs(is_known(many, (pair,)), False)
        self.assertIs(is_known(2, ((0, 1),)), True)
        self.assertIs(is_known(1, ((0, 1),)), False)

    def test_values_that_are_none(self):
        tour = tour_of(2)
        wrong = [
            [], [(0, 1)], ([0, 1],), ((0, True),), ((False, 1),), ((True, 0),), ((0, 1, 2),), ((0,),), (0, 1), ((),),
            ((0, "1"),), ("01",), "01", ((0, None),), None, (None,), 0, True, False, tour, (tour,), ((0, tour),),
            (((0, 1),),), ((0, (1,)),), (((0,), 1),), ((0, 1), [0, 2]), ((0, 1), None),
        ]
        for many in range(1, 5):
            self.assertIs(is_known(many, ()), True)
            for value in wrong:
                self.assertIs(is_known(many, value), False, value)
            for value in any_values():
                expected = type(value) is tuple and value in ((), ((0, 1),)) and many > len(value)
                self.assertIs(is_known(many, value), expected and is_plain(value), value)

    def test_other_classes(self):
        self.assertIs(is_known(OwnInt(3), Two(Two(0, OwnInt(1)), (OwnInt(2), 1))), True)
        self.assertIs(is_known(3, Two(Two(0, OwnInt(1)), (OwnInt(1), 2))), False)
        self.assertIs(is_known(value=((0, 1),), many=2), True)


class KnownFromTest(KnownCase):
    def check(self, many, pairs):
        then = slow_closure(pairs)
        if any(a == b for a, b in then):
            self.assertEqual(slow_agreeing(many, pairs), [])
            self.check_undefined("known", known_from, many, pairs)
            return False
        found = known_from(many, pairs)
        self.assertEqual(found, then)
        self.assertTrue(is_plain(found))
        self.assertIs(is_known(many, found), True)
        self.assertEqual(slow_agreeing(many, found), slow_agreeing(many, pairs))
        return True

    def test_all_sets_of_pairs(self):
        for many in range(1, 4):
            for pairs in subsets(permutations(range(many), 2)):
                self.check(many, pairs)

    def test_pairs_of_four(self):
        draw = random.Random(81)
        told = {True: 0, False: 0}
        pairs = list(permutations(range(4), 2))
        for _ in range(1500):
            told[self.check(4, tuple(draw.choices(pairs, k=draw.randint(0, 7))))] += 1
        self.assertGreater(min(told.values()), 300)

    def test_need_not_be_ascending_and_may_come_twice(self):
        self.assertEqual(known_from(4, ((2, 3), (0, 1), (2, 3), (1, 2))), known_from(4, ((0, 1), (1, 2), (2, 3))))
        self.assertEqual(known_from(4, ((2, 3), (0, 1))), ((0, 1), (2, 3)))
        self.assertEqual(known_from(2, ((1, 0),) * 15000), ((1, 0),))
        self.assertEqual(known_from(3, ((2, 1), (1, 0))), ((1, 0), (2, 0), (2, 1)))
        self.assertEqual(known_from(1, ()), ())

    def test_circles(self):
        for pairs in (((0, 1), (1, 0)), ((1, 0), (0, 1), (0, 1))):
            for many in (2, 3, 4):
                self.check_undefined("known", known_from, many, pairs)
        self.check_undefined("known", known_from, 3, ((0, 1), (1, 2), (2, 0)))
        self.check_undefined("known", known_from, 4, ((3, 2), (2, 1), (1, 0), (0, 3)))
        self.check_undefined("known", known_from, 4, ((3, 2), (2, 1), (1, 0), (0, 2)))

    def test_all_known_is_kept(self):
        for many in range(1, 5):
            for known in slow_all_known(many):
                self.assertEqual(known_from(many, known), known)
                self.assertEqual(known_from(many, known[::-1]), known)

    def test_wrong_numbers(self):
        for value in WRONG_NUMBERS + [value for value in any_values() if type(value) is not int]:
            for pairs in ((), ((0, 1),), ((0, 0),), None):
                self.check_error(InvalidNumber, value, known_from, value, pairs)

    def test_wrong_pairs(self):
        tour = tour_of(2)
        wrong = [
            ((0, 0),), ((0, 1), (1, 1)), [], [(0, 1)], ([0, 1],), ((0, True),), ((False, 1),), ((True, 0),),
            ((0, 1, 2),), ((0,),), (0, 1), ((),), ((0, "1"),), "01", ((0, None),), None, 0, True, False, tour,
            ((0, tour),), (((0, 1),),), ((0, 1), [1, 0]), ((-1, 0),), ((0, 4),), ((4, 0),), ((0, 1), (1, 0), (2, 2)),
        ]
        for many in range(1, 5):
            for value in wrong + [((0, many),), ((many, 0),)]:
                self.check_error(InvalidPairs, value, known_from, many, value)
            for value in any_values():
                taken = value == () or (many > 1 and value in (((0, 1),), ((0, 1),) * 15000))
                if not taken or not is_plain(value):
                    self.check_error(InvalidPairs, value, known_from, many, value)

    def test_other_classes(self):
        found = known_from(OwnInt(3), Two(Two(0, OwnInt(1)), (OwnInt(1), 2)))
        self.assertEqual(found, ((0, 1), (0, 2), (1, 2)))
        self.assertTrue(is_plain(found))
        self.assertEqual(known_from(pairs=((1, 0),), many=2), ((1, 0),))


class SettledTest(KnownCase):
    def test_all_orders(self):
        told = {True: 0, False: 0}
        for many in range(1, 5):
            for known in slow_all_known(many):
                for rank in range(1, many + 1):
                    expected = len({order[rank - 1] for order in slow_agreeing(many, known)}) == 1
                    self.assertIs(settled(many, known, rank), expected)
                    told[expected] += 1
        self.assertGreater(min(told.values()), 150)

    def test_ranks(self):
        self.assertIs(settled(1, (), 1), True)
        self.assertIs(settled(2, (), 1), False)
        self.assertIs(settled(2, ((1, 0),), 2), True)
        known = ((0, 1), (0, 2))
        self.assertEqual([settled(3, known, rank) for rank in (1, 2, 3)], [True, False, False])
        known = ((0, 2), (1, 2))
        self.assertEqual([settled(3, known, rank) for rank in (1, 2, 3)], [False, False, True])
        known = ((0, 1), (0, 2), (0, 3), (1, 2), (1, 3))
        self.assertEqual([settled(4, known, rank) for rank in (1, 2, 3, 4)], [True, True, False, False])

    def test_the_order_of_errors(self):
        for many in WRONG_NUMBERS:
            for known in ((), ((1, 0), (0, 1)), None):
                for rank in (1, 0, None):
                    self.check_error(InvalidNumber, many, settled, many, known, rank)
        for known in (((0, 1), (1, 2)), [], None, ((0, True),), ((0, 0),), ((0, 3),), ((0, 1), (0, 1)), tour_of(2)):
            for rank in (1, 0, None):
                self.check_error(InvalidOrder, known, settled, 3, known, rank)
        for rank in [0, 4, -1, 10 ** 11, True, False, None, "1", (), (1,), [1], tour_of(2)]:
            self.check_error(InvalidNumber, rank, settled, 3, ((0, 1),), rank)
        for many in range(1, 5):
            self.check_error(InvalidNumber, many + 1, settled, many, (), many + 1)

    def test_any_values(self):
        for value in any_values():
            if type(value) is not int:
                self.check_error(InvalidNumber, value, settled, value, (), 1)
                self.check_error(InvalidNumber, value, settled, 2, (), value)
            if value not in ((), ((0, 1),)) or not is_plain(value):
                self.check_error(InvalidOrder, value, settled, 2, value, 1)

    def test_other_classes(self):
        self.assertIs(settled(OwnInt(2), (Two(OwnInt(1), 0),), OwnInt(2)), True)
        self.assertIs(settled(rank=1, known=((0, 1),), many=2), True)


class ResultsTest(KnownCase):
    def test_all_orders(self):
        draw = random.Random(82)
        for many in range(1, 5):
            for known in slow_all_known(many):
                agreeing = slow_agreeing(many, known)
                for bouts in slow_bouts(many):
                    found = results(many, known, bouts)
                    self.assertEqual(found, slow_results(many, known, bouts))
                    self.assertTrue(is_plain(found))
                    rows = {tuple(min(pair, key=order.index) for pair in bouts) for order in agreeing}
                    self.assertEqual([winners for winners, _ in found], sorted(rows))
                    winners, then = draw.choice(found)
                    told = known + tuple((x, a + b - x) for (a, b), x in zip(bouts, winners))
                    self.assertEqual(slow_agreeing(many, then), slow_agreeing(many, told))

    def test_results(self):
        self.assertEqual(results(2, (), ((0, 1),)), (((0,), ((0, 1),)), ((1,), ((1, 0),))))
        self.assertEqual(results(2, ((1, 0),), ((0, 1),)), (((1,), ((1, 0),)),))
        self.assertEqual(
            results(3, ((0, 1),), ((1, 2),)), (((1,), ((0, 1), (0, 2), (1, 2))), ((2,), ((0, 1), (2, 1)))))
        found = results(4, (), ((0, 3), (1, 2)))
        self.assertEqual([winners for winners, _ in found], [(0, 1), (0, 2), (3, 1), (3, 2)])
        self.assertEqual(found[2], ((3, 1), ((1, 2), (3, 0))))

    def test_some_results_cannot_be(self):
        known = ((0, 1), (2, 3))
        found = results(4, known, ((0, 3), (1, 2)))
        # If 3 is better than 0, then 2 is better than 1.
        self.assertEqual([winners for winners, _ in found], [(0, 1), (0, 2), (3, 2)])
        self.assertEqual(len(results(4, known, ((0, 1), (2, 3)))), 1)

    def test_the_order_of_errors(self):
        for many in WRONG_NUMBERS:
            for known in ((), ((1, 0), (0, 1))):
                for bouts in (((0, 1),), ()):
                    self.check_error(InvalidNumber, many, results, many, known, bouts)
        for known in (((0, 1), (1, 2)), [], None, ((0, True),), ((0, 0),), ((0, 3),), "", tour_of(2)):
            for bouts in (((0, 1),), ()):
                self.check_error(InvalidOrder, known, results, 3, known, bouts)

    def test_wrong_rounds(self):
        tour = tour_of(2)
        wrong = [
            (), ((2, 3), (0, 1)), ((0, 1), (0, 1)), ((1, 0),), ((0, 1), (1, 2)), ((0, 1), (0, 2)), ((0, 0),), [],
            [(0, 1)], ([0, 1],), ((0, True),), ((False, 1),), ((0, 1, 2),), ((0,),), (0, 1), ((),), ((0, "1"),), "01",
            ((0, None),), None, 0, True, tour, (tour,), ((0, tour),), (((0, 1),),), ((0, 4),), ((-1, 0),),
            ((0, 1), [2, 3]), ((0, 1), (2, 4)), ((0, 2), (1, 3), (2, 3)), ((0, 1), (3, 2)),
        ]
        for value in wrong:
            self.check_error(InvalidRound, value, results, 4, ((0, 1),), value)
        for many in range(1, 5):
            value = ((0, many),)
            self.check_error(InvalidRound, value, results, many, (), value)
            for value in any_values():
                if value != ((0, 1),) or not is_plain(value) or many < 2:
                    self.check_error(InvalidRound, value, results, many, (), value)

    def test_all_tuples_of_pairs(self):
        good = slow_bouts(3)
        for value in chain(small_tuples(list(product(range(3), repeat=2)), 2), subsets(combinations(range(4), 2))):
            if value not in good:
                self.check_error(InvalidRound, value, results, 3, (), value)

    def test_other_classes(self):
        found = results(OwnInt(3), (Two(OwnInt(0), 1),), (Two(1, OwnInt(2)),))
        self.assertEqual(found, results(3, ((0, 1),), ((1, 2),)))
        self.assertTrue(is_plain(found))
        self.assertEqual(results(bouts=((0, 1),), known=(), many=2), results(2, (), ((0, 1),)))


class KnownThenTest(KnownCase):
    def test_what_is_settled_stays_settled(self):
        for known in slow_all_known(4)[::5]:
            for rank in range(1, 5):
                for bouts in slow_bouts(4):
                    for _, then in results(4, known, bouts):
                        self.assertTrue(set(known) <= set(then))
                        self.assertTrue(slow_settled(4, then, rank) or not slow_settled(4, known, rank))


if __name__ == "__main__":
    unittest.main()
