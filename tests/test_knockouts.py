"""[15], [16]: knock-outs, draws, kings, winners' tables; promises (9) and (10)."""

import random
import unittest
from itertools import combinations, permutations, product

from roundsettle.errors import InvalidBeats, InvalidDraw, InvalidPlayer, Undefined
from roundsettle.knockouts import are_beats, bars_hold, can_win, draw_for, kings, winner, winners_table
from tests.helper import (
    OwnInt, Two, all_beats, any_values, beats_of, drawn_beats, in_place, is_plain, sets_of, slow_are_winners,
    slow_winner, slow_winners, small_tuples, subsets, tour_of,
)

CHAIN = {many: beats_of(many, ()) for many in (2, 4, 8)}
# 1 beats all but 0, and 0 beats no other one.
UPSET = ((1,), (2, 3), (0, 3), (0,))


def drawn(seed, many, number):
    draw = random.Random(seed)
    return [drawn_beats(draw, many) for _ in range(number)]


def beats_to_look_at():
    """All beats of 2 and 4 players, and drawn ones of 8."""
    return all_beats(2) + all_beats(4) + [CHAIN[8]] + drawn(100, 8, 40)


def wrong_beats():
    """Values that are no beats, near ones first."""
    tour = tour_of(2)
    return [
        ((), ()), ((1,), (0,)), ((0,), ()), ((0, 1), ()), ((1, 1), ()), ((), (1,)), ((1,),), ((1,), (), ()),
        ((1, 2), (2,), ()), ((),), (), ((1,), (), (0, 1)), ((2, 1, 3), (2, 3), (3,), ()), ((1, 2, 3), (3, 2), (3,), ()),
        ((1, 2), (2, 3), (3,), ()), ((1, 2, 3), (2, 3), (3,), (2,)), ((1, 2, 3), (2, 3), (3,), (0,)),
        ((1, 2, 4), (2, 3), (3,), ()), ((1, 2, 3, 3), (2, 3), (3,), ()), ((1, 2, 3), (2, 3), (3,), (3,)),
        ((-1, 1), ()), ((2,), ()), ((True,), ()), ((), (False,)), ((True, 2, 3), (2, 3), (3,), ()), [(1,), ()],
        ([1], ()),
        ((1,), []), ([], []), ((1,), None), (1, ()), ((1,), 0), ((None,), ()), (("1",), ()), ("1", ""), "1",
        (("1",), ""),
        (tour, ()), ((tour,), ()), (((1,),), ()), (CHAIN[2],), CHAIN[4][:3], CHAIN[4] + ((),), CHAIN[8][:4],
        CHAIN[8][:7],
        CHAIN[8] + CHAIN[8], CHAIN[8] + ((),), CHAIN[4][::-1], ((1,), (), (), ()), None, 0, 2, True, tour, "", [],
        beats_of(3, ()), beats_of(6, ()), beats_of(16, ()), beats_of(1, ()),
    ]


class KnockoutCase(unittest.TestCase):
    def check_error(self, error, value, call, *args):
        with self.assertRaises(error) as caught:
            call(*args)
        self.assertIs(type(caught.exception), error)
        self.assertIs(caught.exception.value, value)


class BeatsTest(KnockoutCase):
    def test_beats(self):
        for beats in beats_to_look_at() + list(CHAIN.values()) + [UPSET]:
            self.assertIs(are_beats(beats), True)

    def test_all_of_two(self):
        good = [((1,), ()), ((), (0,))]
        for value in product(list(small_tuples(range(-1, 3), 2)), repeat=2):
            self.assertIs(are_beats(value), value in good, value)

    def test_of_other_numbers_of_players(self):
        for many in range(0, 18):
            self.assertIs(are_beats(beats_of(many, ())), many in (2, 4, 8))

    def test_one_game_is_changed(self):
        for many, beats in list(CHAIN.items()) + [(4, UPSET)] + [(8, beats) for beats in drawn(101, 8, 10)]:
            for a, b in combinations(range(many), 2):
                one, other = (a, b) if b in beats[a] else (b, a)
                neither = in_place(beats, one, tuple(x for x in beats[one] if x != other))
                both = in_place(beats, other, tuple(sorted(beats[other] + (one,))))
                turned = in_place(neither, other, both[other])
                self.assertIs(are_beats(neither), False)
                self.assertIs(are_beats(both), False)
                self.assertIs(are_beats(turned), True)

    def test_not_ascending_itself_and_others(self):
        for beats in [CHAIN[4], CHAIN[8], UPSET] + drawn(102, 8, 10):
            for player, row in enumerate(beats):
                for other in (row[::-1], row + row, row + (player,), (player,) + row, tuple(sorted(row + (player,))),
                              row + (len(beats),), (-1,) + row, list(row), row[:-1], row + (None,)):
                    if other != row:
                        self.assertIs(are_beats(in_place(beats, player, other)), False)

    def test_any_value(self):
        for value in wrong_beats() + any_values():
            self.assertIs(are_beats(value), False, value)

    def test_other_classes(self):
        self.assertIs(are_beats(Two((OwnInt(1),), ())), True)
        self.assertIs(are_beats(Two((OwnInt(0),), ())), False)
        self.assertIs(are_beats((Two(1, OwnInt(2)), (2, 3), (3,), (0,))), True)
        self.assertIs(are_beats(value=CHAIN[2]), True)

    def test_errors(self):
        calls = (
            lambda beats: winner(beats, (0, 1)), lambda beats: winner(beats, None), can_win, kings, winners_table,
            lambda beats: draw_for(beats, 0), lambda beats: draw_for(beats, -1), lambda beats: draw_for(beats, None),
        )
        for value in wrong_beats() + any_values():
            for call in calls:
                self.check_error(InvalidBeats, value, call, value)


class WinnerTest(KnockoutCase):
    def test_neighbours_meet(self):
        self.assertEqual(winner(UPSET, (0, 1, 2, 3)), 2)
        self.assertEqual(winner(UPSET, (0, 2, 1, 3)), 1)
        self.assertEqual(winner(UPSET, (3, 0, 2, 1)), 1)
        self.assertEqual(winner(((1, 3), (2, 3), (0, 3), ()), (0, 1, 2, 3)), 2)
        self.assertEqual(winner(CHAIN[2], (1, 0)), 0)
        self.assertEqual(winner(((), (0,)), (1, 0)), 1)

    def test_all_draws(self):
        for beats in all_beats(2) + all_beats(4):
            for order in permutations(range(len(beats))):
                found = winner(beats, order)
                self.assertIs(type(found), int)
                self.assertEqual(found, slow_winner(beats, order))

    def test_drawn_draws_of_eight(self):
        draw = random.Random(103)
        for beats in drawn(104, 8, 60):
            for _ in range(40):
                order = tuple(draw.sample(range(8), 8))
                self.assertEqual(winner(beats, order), slow_winner(beats, order))

    def test_wrong_draws(self):
        tour = tour_of(2)
        wrong = [
            (), (0,), (0, 1), (0, 1, 2), (0, 1, 2, 3, 4), (0, 1, 2, 2), (0, 0, 0, 0), (0, 1, 2, 4), (-1, 0, 1, 2),
            (1, 2, 3, 4), [0, 1, 2, 3], "0123", (0, 1, 2, "3"), (False, 1, 2, 3), (0, True, 2, 3), (0, 1, 2, None),
            None,
            0, True, tour, (0, 1, 2, tour), ((0, 1), (2, 3)), ((0, 1, 2, 3),), (0, 1, 2, (3,)), (0, 1, 2, [3]),
            tuple(range(8)), (0, 1, 2, 3, 0), (0, 1, 2, 10 ** 11),
        ]
        for value in wrong + any_values():
            for beats in (CHAIN[4], UPSET):
                self.check_error(InvalidDraw, value, winner, beats, value)
        for value in ((0,), (0, 0), (0, 2), (0, 1, 0), (False, 1), (0, True)):
            self.check_error(InvalidDraw, value, winner, CHAIN[2], value)
        for value in (tuple(range(7)), tuple(range(9)), (0,) * 8, tuple(range(7)) + (8,), tuple(range(1, 9))):
            self.check_error(InvalidDraw, value, winner, CHAIN[8], value)

    def test_other_classes(self):
        found = winner(Two((), (OwnInt(0),)), Two(OwnInt(1), OwnInt(0)))
        self.assertEqual(found, 1)
        self.assertIs(type(found), int)
        self.assertEqual(winner(draw=(0, 1), beats=CHAIN[2]), 0)


class DrawTest(KnockoutCase):
    def check(self, beats, winners):
        """Whether those who can win are just these, each by the draw that is returned."""
        self.assertEqual(can_win(beats), winners)
        self.assertTrue(is_plain(can_win(beats)))
        table = winners_table(beats)
        for player in range(len(beats)):
            self.assertIs(bars_hold(beats, player, table), player not in winners)
            if player in winners:
                found = draw_for(beats, player)
                self.assertEqual(sorted(found), list(range(len(beats))))
                self.assertEqual(slow_winner(beats, found), player)
                self.assertEqual(winner(beats, found), player)
                self.assertTrue(is_plain(found))
                self.assertEqual(draw_for(player=OwnInt(player), beats=tuple(tuple(row) for row in beats)), found)
            else:
                with self.assertRaises(Undefined) as caught:
                    draw_for(beats, player)
                self.assertIs(type(caught.exception), Undefined)
                self.assertEqual(caught.exception.what, "draw")

    def test_all_beats_of_two_and_four(self):
        told = set()
        for beats in all_beats(2) + all_beats(4):
            winners = tuple(sorted({slow_winner(beats, order) for order in permutations(range(len(beats)))}))
            self.check(beats, winners)
            told.add(len(winners))
        self.assertGreater(len(told), 1)

    def test_drawn_beats_of_eight(self):
        told = set()
        for beats in [CHAIN[8]] + drawn(105, 8, 40):
            winners = slow_winners(beats, tuple(range(8)))
            self.check(beats, winners)
            told.add(len(winners))
        self.assertGreater(len(told), 4)

    def test_all_draws_of_eight(self):
        for beats in drawn(106, 8, 4):
            self.check(beats, tuple(sorted({slow_winner(beats, order) for order in permutations(range(8))})))

    def test_an_order(self):
        for many, beats in CHAIN.items():
            self.check(beats, (0,))
        # Each beats the one behind it, and the last one the first.
        self.check(beats_of(4, ((3, 0),)), (0, 1))

    def test_wrong_players(self):
        for beats in CHAIN.values():
            for value in [-1, len(beats), 10 ** 11, True, False, None, "", "0", (), (0,), [], [0], tour_of(2),
                          CHAIN[2]]:
                self.check_error(InvalidPlayer, value, draw_for, beats, value)
            for value in any_values():
                if type(value) is not int:
                    self.check_error(InvalidPlayer, value, draw_for, beats, value)
        self.assertEqual(sorted(draw_for(CHAIN[2], 0)), [0, 1])


class KingsTest(KnockoutCase):
    def test_kings(self):
        for beats in beats_to_look_at() + drawn(107, 8, 150):
            many = len(beats)
            expected = tuple(
                player for player in range(many)
                if all(other in beats[player] or any(other in beats[x] for x in beats[player])
                       for other in range(many) if other != player)
            )
            found = kings(beats)
            self.assertEqual(found, expected)
            self.assertGreater(len(found), 0)
            self.assertTrue(is_plain(found))
            # Promise (10).
            for king in found:
                if 2 * len(beats[king]) >= many:
                    self.assertIn(king, can_win(beats))

    def test_known_ones(self):
        for many, beats in CHAIN.items():
            self.assertEqual(kings(beats), (0,))
            self.assertEqual(kings(beats=beats), (0,))
        self.assertEqual(kings(UPSET), (0, 1, 2))
        self.assertEqual(kings(((), (0,))), (1,))
        self.assertEqual(kings(beats_of(4, ((2, 0),))), (0, 1, 2))
        self.assertEqual(kings(beats_of(4, ((3, 0),))), (0, 1, 3))

    def test_other_classes(self):
        beats = (Two(OwnInt(1), OwnInt(2)), (OwnInt(2), OwnInt(3)), (OwnInt(3),), (OwnInt(0),))
        for call in (kings, can_win, winners_table):
            self.assertEqual(call(beats), call(beats_of(4, ((3, 0),))))
            self.assertTrue(is_plain(call(beats)))
        for player in can_win(beats):
            self.assertTrue(is_plain(draw_for(beats, OwnInt(player))))


class TableTest(KnockoutCase):
    def test_those_who_win_by_some_draw(self):
        for beats in all_beats(2) + all_beats(4) + drawn(108, 8, 15):
            found = winners_table(beats)
            self.assertEqual([row[0] for row in found], sets_of(len(beats)))
            for players, winners in found:
                self.assertEqual(winners, slow_winners(beats, players))
            self.assertTrue(is_plain(found))
            self.assertTrue(slow_are_winners(beats, found))
            self.assertEqual(winners_table(beats=beats), found)

    def test_small_ones(self):
        self.assertEqual(winners_table(CHAIN[2]), (((0, 1), (0,)),))
        self.assertEqual(winners_table(((), (0,))), (((0, 1), (1,)),))
        self.assertEqual(winners_table(CHAIN[4]), (
            ((0, 1), (0,)), ((0, 1, 2, 3), (0,)), ((0, 2), (0,)), ((0, 3), (0,)), ((1, 2), (1,)), ((1, 3), (1,)),
            ((2, 3), (2,))))
        self.assertEqual(len(winners_table(CHAIN[8])), 28 + 70 + 1)


class BarsTest(KnockoutCase):
    def check(self, beats, value):
        """bars_hold for each player, as the slow answer tells; whether it holds for one."""
        table = is_plain(value) and slow_are_winners(beats, value)
        winners = dict(value)[tuple(range(len(beats)))] if table else ()
        held = False
        for player in range(-1, len(beats) + 1):
            expected = table and 0 <= player < len(beats) and player not in winners
            self.assertIs(bars_hold(beats, player, value), expected)
            held = held or expected
        return held

    def test_all_members(self):
        for beats in beats_to_look_at():
            full = tuple((players, players) for players in sets_of(len(beats)))
            self.assertTrue(slow_are_winners(beats, full))
            self.assertFalse(self.check(beats, full))
            # All but the last set may have all members.
            last = tuple(range(len(beats)))
            for player in range(len(beats)):
                at = full.index((last, last))
                cut = tuple(x for x in last if x != player)
                self.check(beats, in_place(full, at, (last, cut)))

    def test_winners_more_or_less(self):
        draw = random.Random(109)
        held = {True: 0, False: 0}
        for beats in all_beats(4) + drawn(110, 8, 12):
            found = winners_table(beats)
            for at in draw.sample(range(len(found)), min(7, len(found))):
                players, winners = found[at]
                for x in players:
                    others = tuple(y for y in winners if y != x) if x in winners else tuple(sorted(winners + (x,)))
                    held[self.check(beats, in_place(found, at, (players, others)))] += 1
        self.assertGreater(min(held.values()), 30)

    def test_more_winners_that_are_led_on(self):
        """Winners that nothing asks for may stand in a table, if what follows from them does, too."""
        draw = random.Random(111)
        held = {True: 0, False: 0}
        for beats in drawn(112, 4, 120) + drawn(113, 8, 10):
            told = {players: winners for players, winners in winners_table(beats)}
            for players in draw.sample(sorted(told), 1):
                told[players] = tuple(sorted({*told[players], draw.choice(players)}))
            told.update({(x,): (x,) for x in range(len(beats))})
            for players in sorted(sets_of(len(beats)), key=len):
                for half in combinations(players, len(players) // 2):
                    other = tuple(x for x in players if x not in half)
                    better = {x if y in beats[x] else y for x, y in product(told[half], told[other])}
                    told[players] = tuple(sorted(better | set(told[players])))
            value = tuple((players, told[players]) for players in sets_of(len(beats)))
            self.assertTrue(slow_are_winners(beats, value))
            held[self.check(beats, value)] += 1
        self.assertGreater(min(held.values()), 2)

    def test_drawn_tables_of_two_and_four(self):
        draw = random.Random(114)
        for beats in all_beats(2):
            for winners in small_tuples(range(-1, 3), 3):
                self.check(beats, (((0, 1), winners),))
        held = 0
        for beats in all_beats(4):
            for _ in range(25):
                value = tuple(
                    (players, draw.choice([x for x in subsets(players) if set(winners) <= set(x)]))
                    for players, winners in winners_table(beats))
                held += self.check(beats, value)
        self.assertGreater(held, 20)

    def test_sets_left_out_twice_and_in_another_order(self):
        for beats in [CHAIN[2], CHAIN[4], UPSET, CHAIN[8]] + drawn(115, 8, 3):
            found = winners_table(beats)
            values = [found[::-1], found + found, found[1:] + found[:1], (), found + ((),), ((),) + found]
            for at in range(0, len(found), 7):
                values += [found[:at] + found[at + 1:], found[:at] + found[at:at + 1] + found[at:]]
                values += [in_place(found, at, found[at - 1])]
            values += [tuple(sorted(found + (row,))) for row in (((0,), (0,)), ((0, 1, 2), (0,)), ((), ()))]
            for value in values:
                if value != found:
                    self.assertFalse(self.check(beats, value))

    def test_changed_at_one_place(self):
        draw = random.Random(116)
        others = ("0", None, (0,), [0])
        for beats in [CHAIN[2], CHAIN[4], UPSET, CHAIN[8]] + drawn(117, 8, 4):
            found = winners_table(beats)
            numbers = range(-1, len(beats) + 1)
            for at in draw.sample(range(len(found)), min(10, len(found))):
                players, winners = found[at]
                rows = [[players, winners], (list(players), winners), (players, list(winners)), (players,), players,
                        (players, winners, ()), (winners, players), (players, winners[::-1] + winners), (players, ()),
                        (players, winners + winners), (players, winners + (len(beats),)), (players, (-1,) + winners),
                        (players[::-1], winners), (players, None), (players, 0), (players, "0"), None, (),
                        (players, winners + (None,)), (players, (winners,))]
                rows += [(players, in_place(winners, k, x)) for k in range(len(winners)) for x in numbers]
                rows += [(in_place(players, k, x), winners) for k in range(len(players)) for x in numbers]
                rows += [(players, in_place(winners, k, bool(x))) for k, x in enumerate(winners) if x < 2]
                rows += [(in_place(players, k, bool(x)), winners) for k, x in enumerate(players) if x < 2]
                rows += [(players, in_place(winners, k, y)) for k in range(len(winners)) for y in others]
                for row in rows:
                    value = in_place(found, at, row)
                    if is_plain(row) and row[:1] == (players,) and len(row) == 2 and type(row[1]) is tuple \
                            and all(type(x) is int for x in row[1]):
                        self.check(beats, value)
                    else:
                        for player in range(len(beats)):
                            self.assertIs(bars_hold(beats, player, value), False, row)

    def test_winners_that_are_no_members(self):
        """Also where the better one of any two winners of halves is among the winners."""
        for beats in [CHAIN[4], UPSET, CHAIN[8]]:
            many = len(beats)
            found = winners_table(beats)
            for at, (players, winners) in enumerate(found):
                for x in range(many):
                    if x not in players:
                        value = in_place(found, at, (players, tuple(sorted(winners + (x,)))))
                        self.assertFalse(self.check(beats, value))

    def test_the_table_of_other_beats(self):
        draw = random.Random(118)
        every = all_beats(4)
        for beats in every:
            for other in draw.sample(every, 12):
                self.check(beats, winners_table(other))
        for beats in drawn(119, 8, 4):
            for other in drawn(120, 8, 4) + [CHAIN[4], CHAIN[2]]:
                value = winners_table(other)
                expected = slow_are_winners(beats, value)
                for player in range(8):
                    not_in = expected and player not in dict(value)[tuple(range(8))]
                    self.assertIs(bars_hold(beats, player, value), not_in)

    def test_any_player_and_any_value(self):
        for beats in (CHAIN[2], CHAIN[4], CHAIN[8]):
            table = winners_table(beats)
            self.assertIs(bars_hold(beats, 1, table), True)
            self.assertIs(bars_hold(beats, OwnInt(1), table), True)
            self.assertIs(bars_hold(beats, 0, table), False)
            self.assertIs(bars_hold(value=table, player=1, beats=beats), True)
            for value in any_values() + [-1, len(beats), None, (1,), "1", True]:
                if type(value) is not int or value != 1:
                    self.assertIs(bars_hold(beats, value, table), False)
                for player in range(len(beats)):
                    self.assertIs(bars_hold(beats, player, value), False)
                self.assertIs(bars_hold(beats, value, value), False)
            self.assertIs(bars_hold(beats, True, table), False)
            self.assertIs(bars_hold(beats, 1, list(table)), False)

    def test_tuples_of_other_classes(self):
        value = (Two(Two(0, OwnInt(1)), (OwnInt(0),)),)
        self.assertIs(bars_hold(CHAIN[2], 1, value), True)
        self.assertIs(bars_hold(Two((OwnInt(1),), ()), 1, value), True)
        self.assertIs(bars_hold(((), (0,)), 1, value), False)


if __name__ == "__main__":
    unittest.main()
