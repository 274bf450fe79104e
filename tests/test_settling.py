"""[14]: the fewest bout rounds that settle a rank, with tables; promise (8)."""

import random
import unittest

from roundsettle.errors import InvalidNumber, InvalidOrder, Undefined
from roundsettle.known import results
from roundsettle.settling import best_round, least_rounds, settle_table, table_holds
from tests.helper import (
    OwnInt, Two, any_values, in_place, is_plain, slow_all_known, slow_bouts, slow_is_table, slow_least,
    slow_results, slow_settled, tour_of,
)

CALLS = (least_rounds, best_round, settle_table)
WRONG_NUMBERS = [0, 5, -1, 10 ** 11, True, False, None, "", "2", (), (2,), [], [2], tour_of(2)]


def all_cases(fewest=1):
    """All triples of a number of players, something known, and a rank."""
    return [
        (many, known, rank) for many in range(fewest, 5) for known in slow_all_known(many)
        for rank in range(1, many + 1)
    ]


def drawn_cases(seed, number):
    """So many of these where the rank is not settled, all of up to 3 players among them."""
    cases = [case for case in all_cases() if not slow_settled(*case)]
    few = [case for case in cases if case[0] < 4]
    return few + random.Random(seed).sample([case for case in cases if case[0] == 4], number)


class SettlingCase(unittest.TestCase):
    def check_error(self, error, value, call, *args):
        with self.assertRaises(error) as caught:
            call(*args)
        self.assertIs(type(caught.exception), error)
        self.assertIs(caught.exception.value, value)


class LeastTest(SettlingCase):
    def test_against_a_slow_answer(self):
        told = set()
        for many, known, rank in all_cases():
            found = least_rounds(many, known, rank)
            self.assertIs(type(found), int)
            self.assertEqual(found, slow_least(many, known, rank))
            self.assertEqual(found == 0, slow_settled(many, known, rank))
            told.add(found)
        self.assertEqual(told, {0, 1, 2, 3})

    def test_numbers(self):
        self.assertEqual(least_rounds(1, (), 1), 0)
        self.assertEqual([least_rounds(2, (), rank) for rank in (1, 2)], [1, 1])
        self.assertEqual([least_rounds(3, (), rank) for rank in (1, 2, 3)], [2, 3, 2])
        self.assertEqual([least_rounds(4, (), rank) for rank in (1, 2, 3, 4)], [2, 3, 3, 2])
        self.assertEqual(least_rounds(2, ((1, 0),), 1), 0)
        self.assertEqual(least_rounds(4, ((0, 1), (2, 3)), 1), 1)

    def test_best_rounds(self):
        for many, known, rank in all_cases():
            number = slow_least(many, known, rank)
            if number == 0:
                with self.assertRaises(Undefined) as caught:
                    best_round(many, known, rank)
                self.assertIs(type(caught.exception), Undefined)
                self.assertEqual(caught.exception.what, "settled")
                continue
            good = [
                bouts for bouts in slow_bouts(many)
                if all(slow_least(many, then, rank) < number for _, then in slow_results(many, known, bouts))
            ]
            found = best_round(many, known, rank)
            self.assertEqual(found, good[0])
            self.assertTrue(is_plain(found))

    def test_best_round_is_the_first(self):
        self.assertEqual(best_round(2, (), 1), ((0, 1),))
        self.assertEqual(best_round(3, (), 1), ((0, 1),))
        self.assertEqual(best_round(4, (), 1), ((0, 1), (2, 3)))
        self.assertEqual(best_round(4, ((0, 1), (2, 3)), 1), ((0, 2),))
        self.assertEqual(best_round(4, ((0, 1), (2, 3)), 4), ((0, 2), (1, 3)))

    def test_led_to_the_end(self):
        """Whatever comes out, the best rounds settle the rank in so many."""
        for many, known, rank in drawn_cases(83, 40):
            stands = [known]
            for left in range(least_rounds(many, known, rank), 0, -1):
                self.assertEqual(max(least_rounds(many, one, rank) for one in stands), left)
                stands = [
                    then for one in stands if not slow_settled(many, one, rank)
                    for _, then in results(many, one, best_round(many, one, rank))
                ]
            self.assertTrue(all(slow_settled(many, one, rank) for one in stands))


class TableTest(SettlingCase):
    def test_tables_are_right(self):
        for many, known, rank in all_cases():
            found = settle_table(many, known, rank)
            number = slow_least(many, known, rank)
            self.assertTrue(slow_is_table(many, rank, found))
            self.assertTrue(is_plain(found))
            self.assertIn((known, number), found)
            self.assertIs(table_holds(many, known, rank, number, found), True)
            for one, told in found:
                self.assertEqual(told, slow_least(many, one, rank))
            for other in (number - 1, number + 1, -1, 10 ** 11):
                if other != number:
                    self.assertIs(table_holds(many, known, rank, other, found), False)

    def test_a_settled_rank(self):
        self.assertIs(table_holds(1, (), 1, 0, (((), 0),)), True)
        self.assertIs(table_holds(1, (), 1, 1, (((), 1),)), False)
        self.assertIs(table_holds(1, (), 1, 0, ()), False)
        known = ((0, 1),)
        self.assertIs(table_holds(2, known, 1, 0, ((known, 0),)), True)
        self.assertIs(table_holds(2, known, 1, 1, ((known, 1),)), False)
        self.assertIs(table_holds(2, (), 1, 0, (((), 0),)), False)
        self.assertIs(table_holds(2, (), 1, 1, (((), 1), (((0, 1),), 0), (((1, 0),), 0))), True)

    def test_without_known(self):
        """A table that is right but does not tell of what is asked for."""
        right = (((), 1), (((0, 1),), 0), (((1, 0),), 0))
        for known, number in right:
            self.assertIs(table_holds(2, known, 1, number, right), True)
            self.assertIs(table_holds(2, known, 1, 1 - number, right), False)
        self.assertIs(table_holds(2, (), 1, 0, right[1:]), False)
        self.assertIs(table_holds(2, (), 1, 1, right[1:]), False)
        self.assertIs(table_holds(2, ((0, 1),), 1, 0, right[1:]), True)
        self.assertIs(table_holds(2, ((0, 1),), 1, 0, right[2:]), False)
        self.assertIs(table_holds(2, ((0, 1),), 1, 0, ()), False)

    def test_for_everything_that_can_be_known(self):
        """One table of all known tuples holds for each of them, and no other number does."""
        for many in range(1, 5):
            for rank in range(1, many + 1):
                rows = tuple((known, slow_least(many, known, rank)) for known in slow_all_known(many))
                self.assertTrue(slow_is_table(many, rank, rows))
                for known, number in rows[::9]:
                    self.assertIs(table_holds(many, known, rank, number, rows), True)
                    self.assertIs(table_holds(many, known, rank, number + 1, rows), False)

    def test_some_rows_of_all(self):
        """Tables that are cut anyhow hold just where the document says so."""
        draw = random.Random(84)
        told = {True: 0, False: 0}
        for many, known, rank in drawn_cases(85, 25):
            rows = tuple((one, slow_least(many, one, rank)) for one in slow_all_known(many))
            for _ in range(6):
                some = tuple(row for row in rows if draw.random() < draw.choice([0.8, 0.97, 1]))
                expected = (known, slow_least(many, known, rank)) in some and slow_is_table(many, rank, some)
                self.assertIs(table_holds(many, known, rank, slow_least(many, known, rank), some), expected)
                told[expected] += 1
        self.assertGreater(min(told.values()), 25)

    def test_fewest_rows(self):
        """A row that nothing needs may be left out, and each that is needed may not."""
        told = {True: 0, False: 0}
        for many, known, rank in drawn_cases(86, 12):
            number = slow_least(many, known, rank)
            found = settle_table(many, known, rank)
            for at in range(len(found)):
                cut = found[:at] + found[at + 1:]
                expected = found[at][0] != known and slow_is_table(many, rank, cut)
                self.assertIs(table_holds(many, known, rank, number, cut), expected)
                told[expected] += 1
        self.assertGreater(min(told.values()), 20)

    def test_changed_numbers(self):
        draw = random.Random(87)
        for many, known, rank in drawn_cases(88, 25):
            number = slow_least(many, known, rank)
            found = settle_table(many, known, rank)
            for at in draw.sample(range(len(found)), min(8, len(found))):
                one, told = found[at]
                for other in (told - 1, told + 1, told + 2, -1, 10 ** 11):
                    if other == told:
                        continue
                    changed = in_place(found, at, (one, other))
                    # Numbers are the least ones in each table, so that no other one holds.
                    self.assertFalse(slow_is_table(many, rank, changed))
                    self.assertIs(table_holds(many, known, rank, number, changed), False)
                    if one == known:
                        self.assertIs(table_holds(many, known, rank, other, changed), False)

    def test_all_numbers_less_or_more(self):
        for many, known, rank in drawn_cases(89, 40):
            found = settle_table(many, known, rank)
            number = slow_least(many, known, rank)
            more = tuple((one, told + 1) for one, told in found)
            self.assertIs(table_holds(many, known, rank, number + 1, more), False)
            more = tuple((one, told and told + 1) for one, told in found)
            self.assertIs(table_holds(many, known, rank, number + 1, more), False)
            less = tuple((one, max(0, told - 1)) for one, told in found)
            self.assertIs(table_holds(many, known, rank, number - 1, less), False)

    def test_other_orders_and_rows_twice(self):
        for many, known, rank in drawn_cases(90, 40):
            found = settle_table(many, known, rank)
            number = slow_least(many, known, rank)
            values = [found[::-1], found + found, found + found[-1:], found[:1] + found, found[1:] + found[:1]]
            values += [found[1:2] + found[:1] + found[2:], found + (((), 0),), found + ((),)]
            values.append(tuple(sorted(found + ((known, number + 1),))))
            values.append(tuple(sorted(found + (found[-1][:1] + (found[-1][1] + 1,),))))
            values += [found[:-1] + (found[-1] + (0,),), found[:-1] + (found[-1][:1],)]
            for value in values:
                self.assertIs(table_holds(many, known, rank, number, value), False)

    def test_a_pair_left_out(self):
        for many, known, rank in drawn_cases(91, 25):
            found = settle_table(many, known, rank)
            number = slow_least(many, known, rank)
            for at, (one, told) in list(enumerate(found))[::11]:
                for place in range(len(one)):
                    cut = one[:place] + one[place + 1:]
                    changed = tuple(sorted(in_place(found, at, (cut, told))))
                    known_ones = set(slow_all_known(many))
                    expected = all(row[0] in known_ones for row in changed) and (known, number) in changed
                    expected = expected and slow_is_table(many, rank, changed)
                    self.assertIs(table_holds(many, known, rank, number, changed), expected)

    def test_lists_and_bools(self):
        for many, known, rank in drawn_cases(92, 10):
            found = settle_table(many, known, rank)
            number = slow_least(many, known, rank)
            values = [list(found), tuple(map(list, found))]
            for at, (one, told) in enumerate(found[:12]):
                values += [in_place(found, at, row) for row in ([one, told], (list(one), told), (one, [told]))]
                values += [in_place(found, at, row) for row in ((one, None), (one, str(told)), (one, (told,)),
                                                                (None, told))]
                if told < 2:
                    values.append(in_place(found, at, (one, bool(told))))
                for place, (a, b) in enumerate(one):
                    for pair in ([a, b], (a, bool(b)), (bool(a), b), (a, str(b)), (a, b, 0), (a,)):
                        if pair != (a, b) or not is_plain(pair):
                            values.append(in_place(found, at, (in_place(one, place, pair), told)))
            for value in values:
                self.assertIs(table_holds(many, known, rank, number, value), False)

    def test_any_number_and_any_value(self):
        right = (((), 1), (((0, 1),), 0), (((1, 0),), 0))
        for value in any_values() + [None, (((),),), (((), 1),), ((((), 1),),), (None, 1), ((None, 1),)]:
            for known, number in right:
                self.assertIs(table_holds(2, known, 1, number, value), False)
            for known, number in right:
                if type(value) is not int or value != number:
                    self.assertIs(table_holds(2, known, 1, value, right), False)
                    self.assertIs(table_holds(2, known, 1, value, value), False)
        self.assertIs(table_holds(2, (), 1, True, right), False)
        self.assertIs(table_holds(2, ((0, 1),), 1, False, right), False)
        self.assertIs(table_holds(2, (), 1, -1, (((), -1),)), False)

    def test_other_ranks(self):
        for many, known, rank in drawn_cases(93, 20):
            found = settle_table(many, known, rank)
            for other in range(1, many + 1):
                number = slow_least(many, known, other)
                expected = (known, number) in found and slow_is_table(many, other, found)
                self.assertIs(table_holds(many, known, other, number, found), expected)

    def test_other_classes(self):
        found = settle_table(OwnInt(2), (), OwnInt(1))
        self.assertEqual(found, (((), 1), (((0, 1),), 0), (((1, 0),), 0)))
        self.assertTrue(is_plain(found))
        value = (Two((), OwnInt(1)), Two((Two(0, OwnInt(1)),), 0), (((OwnInt(1), 0),), OwnInt(0)))
        self.assertIs(table_holds(OwnInt(2), (), OwnInt(1), OwnInt(1), value), True)
        known = (Two(OwnInt(0), 1),)
        self.assertIs(table_holds(2, known, 1, OwnInt(0), value), True)
        self.assertTrue(is_plain(settle_table(3, known, 1)))
        self.assertIs(type(least_rounds(OwnInt(3), known, OwnInt(1))), int)
        self.assertEqual(best_round(3, known, 1), ((0, 2),))
        self.assertTrue(is_plain(best_round(OwnInt(3), known, 1)))


class ArgumentsTest(SettlingCase):
    def test_the_order_of_errors(self):
        for call in CALLS:
            for many in WRONG_NUMBERS:
                for known in ((), ((1, 0), (0, 1)), None):
                    for rank in (1, 0, None):
                        self.check_error(InvalidNumber, many, call, many, known, rank)
            wrong = [((0, 1), (1, 2)), [], None, ((0, True),), ((0, 0),), ((0, 3),), ((0, 1), (0, 1)), tour_of(2), ""]
            for known in wrong:
                for rank in (1, 0, None):
                    self.check_error(InvalidOrder, known, call, 3, known, rank)
            # Where the rank is settled, too, a wrong one is told first.
            for known in ((), ((0, 1), (0, 2), (1, 2))):
                for rank in [0, 4, -1, 10 ** 11, True, False, None, "1", (), (1,), [1], tour_of(2)]:
                    self.check_error(InvalidNumber, rank, call, 3, known, rank)

    def test_any_values(self):
        for call in CALLS:
            for value in any_values():
                if type(value) is not int:
                    self.check_error(InvalidNumber, value, call, value, (), 1)
                    self.check_error(InvalidNumber, value, call, 2, (), value)
                if value not in ((), ((0, 1),)) or not is_plain(value):
                    self.check_error(InvalidOrder, value, call, 2, value, 1)

    def test_names_of_parameters(self):
        known = ((0, 1), (2, 3))
        self.assertEqual(least_rounds(rank=1, known=known, many=4), 1)
        self.assertEqual(best_round(rank=1, known=known, many=4), ((0, 2),))
        table = settle_table(rank=1, known=known, many=4)
        self.assertEqual(table, settle_table(4, known, 1))
        self.assertIs(table_holds(value=table, number=1, rank=1, known=known, many=4), True)

    def test_equal_calls(self):
        for many, known, rank in drawn_cases(94, 30):
            twin = tuple((a, b) for a, b in known)
            for call in CALLS:
                self.assertEqual(call(many, known, rank), call(many, known, rank))
                self.assertEqual(call(many, known, rank), call(many, twin, rank))


if __name__ == "__main__":
    unittest.main()
