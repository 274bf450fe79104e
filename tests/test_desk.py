"""[19], [20]: the desk; promise (12)."""

import random
import unittest

from roundsettle.claims import answer_of, is_question
from roundsettle.desk import Desk, same_state
from roundsettle.errors import (
    InvalidNumber, InvalidPairs, InvalidPlayer, InvalidQuestion, InvalidRound, NothingToUndo, RoundError, Undefined,
)
from roundsettle.papers import claim_holds, paper_of
from roundsettle.tours import Tour
from tests.helper import (
    OwnInt, OwnStr, Three, Two, any_values, changed_ones, claims_for, drawn_questions, drawn_tour, drawn_tours,
    is_all_plain, is_plain, same_kinds, slow_answer, slow_edit, slow_ends, slow_holds, slow_is_question, slow_may_meet,
    slow_open_games, subsets, tour_of,
)

ALL = (0, 12)
# Six open games of six players, and a pair that may still be put.
SIX_OPEN = (((0, 1, -1), (2, 3, -1), (4, 5, -1)), ((0, 2, -1), (1, 4, -1), (3, 5, -1)))
SEVEN_OPEN = SIX_OPEN + (((0, 3, -1), (1, 2, 2)),)
EDITS = ("pair", "score", "cancel", "enter", "withdraw", "part", "admit")


def shown(desk):
    """All that a desk tells."""
    tour = desk.tour
    kept = tuple((desk.claim(question), desk.paper(question)) for question in desk.watched)
    return (tour.many, tour.bye, tour.barred, tour.stays, tour.rounds), desk.watched, desk.many, kept, desk.report()


def led(tour, *deeds):
    """A desk that is led through these deeds, each a tuple of its name and its arguments."""
    desk = Desk(tour)
    for name, *args in deeds:
        getattr(desk, name)(*args)
    return desk


class Model:
    """A desk as the document tells of it: a row of states and a place in it."""

    def __init__(self, tour):
        self.states = [(tour, ())]
        self.at = 0
        self.kept = {}
        self.words = ()

    def do(self, tour, watched):
        self.states = self.states[:self.at + 1] + [(tour, watched)]
        self.go(1)

    def go(self, by):
        old = self.kept
        self.at += by
        tour, watched = self.states[self.at]
        self.kept = {}
        words = []
        for question in watched:
            here = is_question(tour, question)
            now = (answer_of(tour, question), paper_of(tour, question)) if here else (None, None)
            if question not in old:
                words.append("new")
            elif not here:
                words.append("none")
            elif claim_holds(tour, *old[question]):
                now = old[question]
                words.append("kept")
            else:
                words.append("renewed" if old[question][0] == now[0] else "changed")
            self.kept[question] = now
        self.words = tuple(words)


def watch_and_leave(tour, watched, name, question):
    """What is watched behind such a deed, or the error class and what the error keeps."""
    if name == "watch":
        if not slow_is_question(tour, question):
            return InvalidQuestion, question
        return watched + (question,) * (question not in watched)
    if not any(same_kinds(question, one) for one in watched):
        return Undefined, "watched"
    return tuple(one for one in watched if one != question)


def drawn_edit(draw, tour):
    """Some edit that is often right."""
    name = draw.choice(("pair",) * 4 + ("score",) * 6 + EDITS)
    player = draw.randint(-1, tour.many) if draw.random() < 0.2 else draw.randrange(tour.many)
    other = draw.randrange(tour.many)
    if name == "pair":
        pairs = slow_may_meet(tour)
        some = draw.sample(pairs, draw.randint(0, min(3, len(pairs))))
        if draw.random() < 0.8:
            apart = []
            for pair in some:
                apart += [pair] * all(x not in y for y in apart for x in pair)
            some = sorted(apart)
        return name, tuple(some)
    if name == "score":
        r = draw.randint(-1, len(tour.rounds))
        if tour.rounds and draw.random() < 0.8:
            r = draw.randrange(len(tour.rounds))
        games = tour.rounds[r] if 0 <= r < len(tour.rounds) else ()
        pair = draw.choice(games)[:2] if games and draw.random() < 0.8 else (player, other)
        return name, r, *pair, draw.choice([-1, 0, 1, 2, 0, 1, 2, 3, -2])
    if name == "enter":
        return name, draw.randint(0, 13)
    if name == "withdraw":
        return name, player
    if name in ("part", "admit"):
        if name == "admit" and tour.barred and draw.random() < 0.7:
            return name, *draw.choice(tour.barred)
        return name, *sorted((player, other), reverse=draw.random() < 0.1)
    return (name,)


def drawn_deed(draw, model, questions):
    """Some deed: edits, watching and leaving, undoing and redoing."""
    tour, watched = model.states[model.at]
    kind = draw.random()
    if kind < 0.1:
        return ("undo",)
    if kind < 0.16:
        return ("redo",)
    if kind < 0.3 and len(watched) < 8:
        return "watch", draw.choice(questions)
    if kind < 0.36:
        return "leave", draw.choice(watched or questions)
    return drawn_edit(draw, tour)


class DeskCase(unittest.TestCase):
    def check_error(self, error, kept, desk, name, *args):
        """The call raises just this error, and the desk does not change."""
        before = shown(desk)
        papers = [desk.paper(question) for question in desk.watched]
        tour = desk.tour
        with self.assertRaises(RoundError) as caught:
            getattr(desk, name)(*args)
        self.assertIs(type(caught.exception), error)
        attribute = {Undefined: "what", NothingToUndo: "word"}.get(error, "value")
        found = getattr(caught.exception, attribute)
        if error is InvalidPairs:
            self.assertIs(type(found), tuple)
            self.assertEqual(len(found), 2)
            self.assertIs(found[0], kept[0])
            self.assertIs(found[1], kept[1])
        elif attribute == "value":
            self.assertIs(found, kept)
        else:
            self.assertEqual(found, kept)
        self.assertEqual(shown(desk), before)
        self.assertIs(desk.tour, tour)
        for question, paper in zip(desk.watched, papers):
            self.assertIs(desk.paper(question), paper)

    def check_deed(self, desk, name, *args):
        """The call is a deed: it returns None, and the tour that was read before is as it was."""
        tour = desk.tour
        before = (tour.many, tour.bye, tour.barred, tour.stays, tour.rounds)
        many = desk.many
        self.assertIsNone(getattr(desk, name)(*args))
        self.assertEqual((tour.many, tour.bye, tour.barred, tour.stays, tour.rounds), before)
        self.assertEqual(desk.many, many + 1)
        return desk.tour


class EditTest(DeskCase):
    def test_a_new_desk(self):
        tour = tour_of(3, (((0, 1, -1),),))
        desk = Desk(tour)
        self.assertEqual(desk.tour, tour)
        self.assertEqual((desk.watched, desk.many, desk.report()), ((), 0, ()))
        self.assertEqual(Desk(tour=tour).tour, tour)
        self.assertTrue({"tour", "watched", "many"} <= set(vars(desk)))

    def test_pair(self):
        desk = Desk(tour_of(4))
        self.assertEqual(self.check_deed(desk, "pair", ((0, 1), (2, 3))), tour_of(4, (((0, 1, -1), (2, 3, -1)),)))
        self.assertEqual(self.check_deed(desk, "pair", ()), tour_of(4, (((0, 1, -1), (2, 3, -1)), ())))
        tour = self.check_deed(desk, "pair", ((0, 2),))
        self.assertEqual(tour.rounds, (((0, 1, -1), (2, 3, -1)), (), ((0, 2, -1),)))

    def test_wrong_pairs(self):
        tour = tour_of(5, (((0, 1, 2),),), barred=((0, 2),), stays=(ALL, ALL, ALL, ALL, (0, 1)))
        desk = led(tour, ("watch", ("round",)), ("watch", ("meet",)))
        wrong = [
            ((0, 1),), ((0, 2),), ((3, 4),), ((1, 2), (0, 3)), ((0, 3), (1, 3)), ((0, 3), (0, 3)), ((3, 0),), ((0, 0),),
            ((0, 5),), ((-1, 0),), [], [(0, 3)], ([0, 3],), ((0, 3, -1),), ((0,),), (0, 3), ((),), ((False, 3),),
            ((0, 3), None), ((0, "3"),), ((0, None),), "03", None, 0, True, tour, (tour,), ((0, tour),),
            ((0, 3), (1, 4)),
            (((0, 3),),), ((True, 2),), ((1, True),),
        ]
        for value in wrong + [value for value in any_values() if value != ()]:
            self.check_error(InvalidRound, value, desk, "pair", value)
        for pairs in ((), ((0, 3),), ((0, 3), (1, 2)), ((1, 2),), ((1, 3),), ((2, 3),)):
            self.check_deed(led(tour), "pair", pairs)

    def test_all_sets_of_pairs(self):
        for tour in drawn_tours(160, 40) + [tour_of(6, SIX_OPEN), tour_of(6, SEVEN_OPEN), tour_of(4, ((),) * 7)]:
            for pairs in subsets((a, b) for a in range(tour.many) for b in range(a + 1, tour.many)):
                if len(pairs) > 3:
                    break
                found = slow_edit(tour, "pair", pairs)
                if type(found) is Tour:
                    desk = Desk(tour)
                    desk.pair(pairs)
                    self.assertEqual(desk.tour, found)
                else:
                    self.check_error(*found, Desk(tour), "pair", pairs)

    def test_at_most_eight_rounds(self):
        desk = Desk(tour_of(2, ((),) * 7))
        self.assertEqual(len(self.check_deed(desk, "pair", ((0, 1),)).rounds), 8)
        self.check_error(InvalidRound, (), desk, "pair", ())
        full = Desk(tour_of(4, ((),) * 8))
        for pairs in ((), ((0, 1),), ((0, 1), (2, 3))):
            self.check_error(InvalidRound, pairs, full, "pair", pairs)
        full.cancel()
        self.check_deed(full, "pair", ((0, 1),))

    def test_at_most_seven_open_games(self):
        desk = Desk(tour_of(6, SIX_OPEN))
        value = ((0, 3), (1, 2))
        self.check_error(InvalidRound, value, desk, "pair", value)
        self.check_deed(desk, "pair", ((0, 3),))
        self.assertEqual(len(slow_open_games(desk.tour)), 7)
        value = ((1, 2),)
        self.check_error(InvalidRound, value, desk, "pair", value)
        self.check_deed(desk, "pair", ())
        self.check_deed(desk, "score", 0, 2, 3, 1)
        self.check_deed(desk, "pair", ((1, 2),))

    def test_score(self):
        tour = tour_of(4, (((0, 1, -1), (2, 3, 1)), ((0, 2, 0),)))
        desk = Desk(tour)
        for r, a, b, games in (
            (0, 0, 1, lambda won: (((0, 1, won), (2, 3, 1)), ((0, 2, 0),))),
            (0, 2, 3, lambda won: (((0, 1, 2), (2, 3, won)), ((0, 2, 0),))),
            (1, 0, 2, lambda won: (((0, 1, 2), (2, 3, 2)), ((0, 2, won),))),
        ):
            for won in (-1, 0, 1, 2, 2):
                self.assertEqual(self.check_deed(desk, "score", r, a, b, won), tour_of(4, games(won)))

    def test_wrong_scores_in_their_order(self):
        tour = tour_of(4, (((0, 1, -1), (2, 3, 1)), ((0, 2, 0),)))
        desk = led(tour, ("watch", ("sure", 0, True)))
        numbers = [-1, 2, 10 ** 11, True, False, None, "0", "", (), (0,), [0], tour]
        players = [(1, 0), (0, 2), (0, 3), (1, 2), (0, 0), (0, 4), (-1, 0), (False, 1), (0, True), (None, 1), (0, None),
                   ("0", 1), ([0], 1), ((0, 1), (2, 3)), (tour, tour), (3, 2), (1, 3)]
        scores = [-2, 3, 10 ** 11, True, False, None, "1", "", (), (1,), [1], tour]
        for r in numbers:
            for a, b in [(0, 1)] + players[:3]:
                for won in (1, 3, None):
                    self.check_error(InvalidNumber, r, desk, "score", r, a, b, won)
        for a, b in players:
            for won in [1] + scores[:4]:
                self.check_error(InvalidPairs, (a, b), desk, "score", 0, a, b, won)
        for won in scores:
            self.check_error(InvalidNumber, won, desk, "score", 0, 0, 1, won)
            self.check_error(InvalidNumber, won, desk, "score", 1, 0, 2, won)
        self.check_error(InvalidPairs, (0, 1), desk, "score", 1, 0, 1, 1)
        self.check_error(InvalidNumber, 0, Desk(tour_of(2)), "score", 0, 0, 1, 1)
        for value in any_values():
            if type(value) is not int:
                self.check_error(InvalidNumber, value, desk, "score", value, 0, 1, 1)
                self.check_error(InvalidPairs, (value, 1), desk, "score", 0, value, 1, 1)
                self.check_error(InvalidPairs, (0, value), desk, "score", 0, 0, value, 1)
                self.check_error(InvalidNumber, value, desk, "score", 0, 0, 1, value)

    def test_scores_that_open_a_game(self):
        desk = Desk(tour_of(6, SEVEN_OPEN))
        self.check_error(InvalidNumber, -1, desk, "score", 2, 1, 2, -1)
        # One that is open already may stay so.
        self.check_deed(desk, "score", 2, 0, 3, -1)
        self.check_deed(desk, "score", 2, 1, 2, 0)
        self.check_deed(desk, "score", 0, 0, 1, 1)
        self.check_deed(desk, "score", 2, 1, 2, -1)
        self.check_error(InvalidNumber, -1, desk, "score", 0, 0, 1, -1)

    def test_cancel(self):
        stays = (ALL, (0, 1), (1, 2))
        desk = Desk(tour_of(3, (((0, 1, 2),), ((0, 2, -1),)), stays=stays, barred=((1, 2),), bye=1))
        self.assertEqual(self.check_deed(desk, "cancel"), tour_of(3, (((0, 1, 2),),), 1, ((1, 2),), stays))
        self.assertEqual(self.check_deed(desk, "cancel"), tour_of(3, (), 1, ((1, 2),), stays))
        self.check_error(Undefined, "rounds", desk, "cancel")
        self.check_error(Undefined, "rounds", Desk(tour_of(1)), "cancel")

    def test_enter(self):
        desk = Desk(tour_of(2, (((0, 1, 2),), ()), bye=1))
        tour = self.check_deed(desk, "enter", 5)
        self.assertEqual(tour, Tour(3, 1, (), (ALL, ALL, (2, 5)), (((0, 1, 2),), ())))
        self.assertEqual(self.check_deed(desk, "enter", 2).stays[3], (2, 2))
        self.assertEqual(self.check_deed(desk, "enter", 12).stays[4], (2, 12))
        desk.cancel()
        self.assertEqual(self.check_deed(desk, "enter", 1), Tour(
            6, 1, (), (ALL, ALL, (2, 5), (2, 2), (2, 12), (1, 1)), (((0, 1, 2),),)))
        self.assertEqual(self.check_deed(Desk(tour_of(1)), "enter", 0).stays, (ALL, (0, 0)))

    def test_wrong_entries_in_their_order(self):
        desk = led(tour_of(3, ((), ())), ("watch", ("reach", (0, 0, 0))))
        wrong = [1, 0, -1, 13, 10 ** 11, True, False, None, "5", "", (), (5,), [5], tour_of(2)]
        for value in wrong + [value for value in any_values() if type(value) is not int]:
            self.check_error(InvalidNumber, value, desk, "enter", value)
        full = Desk(tour_of(6))
        for value in [5, 12] + wrong:
            self.check_error(Undefined, "room", full, "enter", value)
        five = Desk(tour_of(5))
        self.check_deed(five, "enter", 4)
        self.check_error(Undefined, "room", five, "enter", 4)

    def test_withdraw_before_in_and_behind_a_stay(self):
        stays = ((0, 12), (0, 1), (3, 5), (2, 2), (1, 3), (12, 12))
        tour = tour_of(6, ((), ()), stays=stays)
        for player, stay in enumerate(((0, 2), (0, 1), (2, 2), (2, 2), (1, 2), (2, 2))):
            desk = Desk(tour)
            found = self.check_deed(desk, "withdraw", player)
            self.assertEqual(found, tour_of(6, ((), ()), stays=stays[:player] + (stay,) + stays[player + 1:]))
            self.assertEqual(self.check_deed(desk, "withdraw", player), found)
        desk = Desk(tour_of(2, (((0, 1, -1),),)))
        self.assertEqual(self.check_deed(desk, "withdraw", 1), tour_of(2, (((0, 1, -1),),), stays=(ALL, (0, 1))))
        self.assertEqual(self.check_deed(Desk(tour_of(1)), "withdraw", 0), tour_of(1, stays=((0, 0),)))

    def test_wrong_players(self):
        desk = led(tour_of(3), ("watch", ("meet",)))
        wrong = [-1, 3, 10 ** 11, True, False, None, "0", "", (), (0,), [0], tour_of(2)]
        for value in wrong + [value for value in any_values() if type(value) is not int]:
            self.check_error(InvalidPlayer, value, desk, "withdraw", value)

    def test_part_and_admit(self):
        desk = Desk(tour_of(4, (((0, 1, 1),),), barred=((1, 2),)))
        self.assertEqual(self.check_deed(desk, "part", 2, 3).barred, ((1, 2), (2, 3)))
        self.assertEqual(self.check_deed(desk, "part", 0, 3).barred, ((0, 3), (1, 2), (2, 3)))
        self.assertEqual(self.check_deed(desk, "admit", 1, 2).barred, ((0, 3), (2, 3)))
        self.check_error(InvalidPairs, (1, 2), desk, "admit", 1, 2)
        self.assertEqual(self.check_deed(desk, "part", 1, 2).barred, ((0, 3), (1, 2), (2, 3)))
        for a, b in ((0, 3), (1, 2), (2, 3)):
            self.check_error(InvalidPairs, (a, b), desk, "part", a, b)
            self.check_deed(desk, "admit", a, b)
        self.assertEqual(desk.tour, tour_of(4, (((0, 1, 1),),)))

    def test_wrong_pairs_to_part_and_admit(self):
        tour = tour_of(4, (((0, 1, 1),), ((2, 3, -1),)), barred=((1, 2),))
        desk = led(tour, ("watch", ("meet",)))
        wrong = [(2, 1), (1, 1), (1, 4), (-1, 2), (True, 2), (1, None), (None, 2), ("1", 2), ([1], 2), (tour, 2),
                 (1, tour)]
        for a, b in wrong + [(0, 1), (2, 3), (1, 2), (False, 3), (3, 0)]:
            self.check_error(InvalidPairs, (a, b), desk, "part", a, b)
        for a, b in wrong + [(0, 1), (2, 3), (0, 2), (0, 3)]:
            self.check_error(InvalidPairs, (a, b), desk, "admit", a, b)
        for value in any_values():
            for name in ("part", "admit"):
                if type(value) is not int:
                    self.check_error(InvalidPairs, (value, 2), desk, name, value, 2)
                    self.check_error(InvalidPairs, (1, value), desk, name, 1, value)

    def test_drawn_edits(self):
        """Each edit of drawn tours is done, or refused, as the document says."""
        draw = random.Random(161)
        told = {(name, done): 0 for name in EDITS for done in (True, False)}
        for _ in range(3500):
            tour = drawn_tour(draw)
            name, *args = drawn_edit(draw, tour)
            found = slow_edit(tour, name, *args)
            done = type(found) is Tour
            desk = Desk(tour)
            if done:
                self.assertEqual(self.check_deed(desk, name, *args), found)
                self.assertTrue(is_plain(desk.tour.rounds) and is_plain(desk.tour.stays) and is_plain(desk.tour.barred))
            else:
                self.check_error(*found, desk, name, *args)
            told[name, done] += 1
        self.assertGreater(min(told.values()), 5)

    def test_names_of_parameters(self):
        desk = Desk(tour_of(4, barred=((0, 3),)))
        desk.pair(pairs=((0, 1),))
        desk.score(points=2, b=1, a=0, r=0)
        desk.enter(last=3)
        desk.withdraw(player=2)
        desk.part(b=3, a=1)
        desk.admit(b=3, a=0)
        self.assertEqual(desk.tour, Tour(5, 0, ((1, 3),), (ALL, ALL, (0, 1), ALL, (1, 3)), (((0, 1, 2),),)))
        desk.watch(question=("meet",))
        self.assertEqual(desk.claim(question=("meet",)), ("meet", 3))
        self.assertEqual(desk.paper(question=("meet",)), paper_of(desk.tour, ("meet",)))
        desk.leave(question=("meet",))
        self.assertIs(same_state(other=desk, one=desk), True)

    def test_other_classes(self):
        desk = Desk(tour_of(4, barred=((0, 3),)))
        desk.pair(Two(Two(OwnInt(0), 1), (2, OwnInt(3))))
        desk.score(OwnInt(0), OwnInt(0), OwnInt(1), OwnInt(2))
        desk.enter(OwnInt(3))
        desk.withdraw(OwnInt(2))
        desk.part(OwnInt(1), OwnInt(3))
        desk.admit(OwnInt(0), OwnInt(3))
        tour = desk.tour
        self.assertEqual(tour, Tour(5, 0, ((1, 3),), (ALL, ALL, (0, 1), ALL, (1, 3)), (((0, 1, 2), (2, 3, -1)),)))
        self.assertTrue(is_plain((tour.many, tour.bye, tour.barred, tour.stays, tour.rounds)))
        desk.watch(Three(OwnStr("first"), OwnInt(1), True))
        desk.watch((OwnStr("reach"), (OwnInt(3), 0, 1, 1, 0)))
        self.assertTrue(is_all_plain(desk.watched))
        self.assertEqual(desk.watched, (("first", 1, True), ("reach", (3, 0, 1, 1, 0))))
        self.assertTrue(is_all_plain(desk.claim(Three("first", OwnInt(1), True))))
        self.assertTrue(is_all_plain(desk.paper(Three("first", OwnInt(1), True))))
        desk.leave(Three("first", OwnInt(1), True))
        self.assertEqual(len(desk.watched), 1)


class UndoTest(DeskCase):
    def test_nothing_to_undo_or_redo(self):
        desk = Desk(tour_of(2))
        self.check_error(NothingToUndo, "undo", desk, "undo")
        self.check_error(NothingToUndo, "redo", desk, "redo")
        desk.pair(())
        self.check_error(NothingToUndo, "redo", desk, "redo")
        desk.undo()
        self.check_error(NothingToUndo, "undo", desk, "undo")
        desk.redo()
        self.check_error(NothingToUndo, "redo", desk, "redo")

    def test_in_all_orders(self):
        """Every row of seven of them, each with its number of deeds."""
        for row in range(3 ** 7):
            desk = Desk(tour_of(1))
            model = [()]
            at = 0
            for step in range(7):
                deed = row // 3 ** step % 3
                if deed == 0:
                    rounds = model[at] + ((),)
                    model = model[:at + 1] + [rounds]
                    at += 1
                    self.assertIsNone(desk.pair(()))
                elif deed == 1 and at == 0:
                    self.assertRaises(NothingToUndo, desk.undo)
                elif deed == 1:
                    at -= 1
                    self.assertIsNone(desk.undo())
                elif at == len(model) - 1:
                    self.assertRaises(NothingToUndo, desk.redo)
                else:
                    at += 1
                    self.assertIsNone(desk.redo())
                self.assertEqual((desk.tour.rounds, desk.many), (model[at], at))

    def test_a_new_deed_ends_what_can_be_redone(self):
        for deed in (("pair", ()), ("enter", 4), ("watch", ("round",)), ("watch", ("meet",)), ("leave", ("round",)),
                     ("withdraw", 0), ("part", 0, 1), ("cancel",), ("score", 0, 0, 2, 1), ("admit", 1, 2)):
            desk = led(tour_of(3, (((0, 2, -1),),), barred=((1, 2),)), ("watch", ("round",)), ("pair", ()), ("undo",))
            getattr(desk, deed[0])(*deed[1:])
            self.check_error(NothingToUndo, "redo", desk, "redo")
            self.assertEqual(desk.many, 2)

    def test_an_error_ends_nothing(self):
        desk = led(tour_of(3), ("pair", ((0, 1),)), ("undo",))
        for name, *args in (("pair", None), ("score", 0, 0, 1, 1), ("cancel",), ("enter", 13), ("withdraw", 3),
                            ("part", 1, 1),
                            ("admit", 0, 1), ("watch", None), ("leave", None), ("undo",)):
            with self.assertRaises(RoundError):
                getattr(desk, name)(*args)
        self.assertIsNone(desk.redo())
        self.assertEqual(desk.tour.rounds, (((0, 1, -1),),))

    def test_watching_and_leaving_are_undone(self):
        desk = led(tour_of(3), ("watch", ("round",)), ("watch", ("meet",)), ("leave", ("round",)))
        self.assertEqual(desk.watched, (("meet",),))
        desk.undo()
        self.assertEqual(desk.watched, (("round",), ("meet",)))
        self.assertEqual(desk.report(), ("new", "kept"))
        desk.undo()
        self.assertEqual(desk.watched, (("round",),))
        desk.redo()
        self.assertEqual(desk.watched, (("round",), ("meet",)))
        self.assertEqual(desk.report(), ("kept", "new"))

    def test_each_edit_is_undone_and_redone(self):
        tour = tour_of(4, (((0, 1, -1),),), barred=((2, 3),))
        for name, *args in (("pair", ((0, 2), (1, 3))), ("score", 0, 0, 1, 2), ("cancel",), ("enter", 7),
                            ("withdraw", 1),
                            ("part", 0, 2), ("admit", 2, 3)):
            desk = Desk(tour)
            behind = self.check_deed(desk, name, *args)
            self.assertNotEqual(behind, tour)
            for _ in range(3):
                self.assertIsNone(desk.undo())
                self.assertEqual((desk.tour, desk.many), (tour, 0))
                self.assertIsNone(desk.redo())
                self.assertEqual((desk.tour, desk.many), (behind, 1))

    def test_sixty_deeds(self):
        desk = Desk(tour_of(2))
        for k in range(30):
            desk.part(0, 1) if k % 2 == 0 else desk.admit(0, 1)
        self.assertEqual(desk.many, 30)
        for k in range(29, 14, -1):
            desk.undo()
            self.assertEqual((desk.many, desk.tour.barred), (k, ((0, 1),) * (k % 2)))
        for k in range(16, 31):
            desk.redo()
            self.assertEqual((desk.many, desk.tour.barred), (k, ((0, 1),) * (k % 2)))


class WatchTest(DeskCase):
    def test_watch(self):
        desk = Desk(tour_of(3))
        questions = [("round",), ("meet",), ("further", 3), ("reach", (0, 0, 0)), ("first", 1, True),
                     ("first", 1, False),
                     ("sure", 0, False), ("further", 4)]
        for at, question in enumerate(questions):
            self.check_deed(desk, "watch", question)
            self.assertEqual(desk.watched, tuple(questions[:at + 1]))
            self.assertEqual(desk.report(), ("kept",) * at + ("new",))
            self.assertEqual(desk.claim(question), answer_of(desk.tour, question))
            self.assertEqual(desk.paper(question), paper_of(desk.tour, question))
        self.assertTrue(is_all_plain(desk.watched))

    def test_watch_twice(self):
        desk = led(tour_of(3), ("watch", ("round",)), ("watch", ("meet",)))
        papers = [desk.paper(question) for question in desk.watched]
        self.check_deed(desk, "watch", ("round",))
        self.assertEqual(desk.watched, (("round",), ("meet",)))
        self.assertEqual(desk.report(), ("kept", "kept"))
        for question, paper in zip(desk.watched, papers):
            self.assertIs(desk.paper(question), paper)
        desk.undo()
        self.assertEqual(desk.watched, (("round",), ("meet",)))
        self.assertEqual(desk.many, 2)

    def test_wrong_questions(self):
        tour = tour_of(3)
        desk = led(tour, ("watch", ("round",)), ("watch", ("further", 1)))
        wrong = [
            ("no round",), ("meet", 3), ("further",), ("further", 5), ("further", True), ("reach", (0, 0)), ("reach",),
            ("first", 3, True), ("first", 0, 1), ("first", True, True), ("sure", 0), ("open", 0, True), ["round"],
            ("reach", (0, 0, 21)), ("reach", [0, 0, 0]), ("reach", (0, 0, False)), "round", (), tour, ("round", ()),
        ]
        for value in wrong + any_values():
            self.check_error(InvalidQuestion, value, desk, "watch", value)

    def test_what_is_not_watched(self):
        tour = tour_of(3)
        questions = [("round",), ("meet",), ("further", 1), ("further", 0), ("reach", (0, 1, 0)), ("first", 1, True),
                     ("sure", 0, False)]
        desk = led(tour, *[("watch", question) for question in questions])
        wrong = [other for question in questions for other in changed_ones(question)] + any_values()
        wrong += [("further", True), ("further", False), ("first", True, True), ("first", 1, 1), ("sure", 0, 0),
                  ("sure", False, False), ("reach", (False, 1, 0)), ("reach", (0, True, 0)), ("reach", (0, 1, False)),
                  ("first", 0, True), ("first", 1, False), ("sure", 0, True), ("further", 2), ("reach", (0, 0, 0)),
                  desk]
        for value in wrong:
            if not any(same_kinds(value, question) for question in questions):
                for name in ("claim", "paper", "leave"):
                    self.check_error(Undefined, "watched", desk, name, value)
        for value in questions + any_values() + [()]:
            for name in ("claim", "paper", "leave"):
                self.check_error(Undefined, "watched", Desk(tour), name, value)

    def test_leave(self):
        questions = [("round",), ("meet",), ("further", 1), ("sure", 0, False)]
        for at, question in enumerate(questions):
            desk = led(tour_of(3), *[("watch", other) for other in questions])
            self.check_deed(desk, "leave", tuple(list(question)))
            self.assertEqual(desk.watched, tuple(questions[:at] + questions[at + 1:]))
            self.assertEqual(desk.report(), ("kept",) * 3)
            for name in ("claim", "paper", "leave"):
                self.check_error(Undefined, "watched", desk, name, question)
            self.check_deed(desk, "watch", question)
            self.assertEqual(desk.watched, tuple(questions[:at] + questions[at + 1:] + [question]))
            self.assertEqual(desk.report(), ("kept",) * 3 + ("new",))

    def test_eight_questions_and_more(self):
        draw = random.Random(162)
        tour = tour_of(6, SIX_OPEN)
        desk = Desk(tour)
        questions = drawn_questions(draw, tour, {(): (0,) * 6}, 1)[:12]
        for question in questions:
            desk.watch(question)
        self.assertEqual(desk.watched, tuple(questions))


class KeptTest(DeskCase):
    def test_kept_renewed_and_changed(self):
        desk = led(tour_of(4), ("watch", ("round",)), ("watch", ("meet",)), ("watch", ("first", 0, True)))
        self.assertEqual(desk.claim(("first", 0, True)), ("passed", 0, True))
        first = desk.paper(("round",))
        self.assertEqual(first, ((0, 1), (2, 3)))
        desk.pair(((0, 1),))
        # In the next round all play, and as many rounds are needed as before, but a pair of the papers has met.
        self.assertEqual(desk.report(), ("renewed", "renewed", "changed"))
        self.assertEqual(desk.paper(("round",)), ((0, 2), (1, 3)))
        self.assertEqual(desk.claim(("meet",)), ("meet", 3))
        self.assertEqual(desk.claim(("first", 0, True)), ("first", 0, True))
        paper = desk.paper(("round",))
        desk.part(2, 3)
        self.assertEqual(desk.report()[0], "kept")
        self.assertIs(desk.paper(("round",)), paper)

    def test_the_very_paper_is_kept(self):
        """Also where paper_of tells another one for the tour."""
        desk = led(tour_of(4, barred=((0, 1),)), ("watch", ("round",)))
        paper = desk.paper(("round",))
        self.assertEqual(paper, ((0, 2), (1, 3)))
        desk.admit(0, 1)
        self.assertEqual(paper_of(desk.tour, ("round",)), ((0, 1), (2, 3)))
        self.assertIs(desk.paper(("round",)), paper)
        self.assertEqual(desk.report(), ("kept",))
        # What is undone does not bring another one, either.
        desk.undo()
        desk.redo()
        self.assertIs(desk.paper(("round",)), paper)
        # But where it is watched anew it is asked for anew.
        desk.leave(("round",))
        desk.undo()
        self.assertEqual(desk.paper(("round",)), ((0, 1), (2, 3)))
        self.assertEqual(desk.report(), ("new",))

    def test_outcomes_that_still_lead_there(self):
        tour = tour_of(3, (((0, 1, 2),), ((0, 2, -1),)))
        desk = led(tour, ("watch", ("first", 2, False)), ("watch", ("sure", 0, False)), ("watch", ("reach", (2, 0, 2))))
        kept = [desk.paper(question) for question in desk.watched]
        self.assertEqual(kept, [(0,), (4, 0, 2), (0,)])
        desk.part(1, 2)
        self.assertEqual(desk.report(), ("kept",) * 3)
        for question, paper in zip(desk.watched, kept):
            self.assertIs(desk.paper(question), paper)
        desk.score(1, 0, 2, 1)
        self.assertEqual(desk.report(), ("changed", "renewed", "changed"))
        self.assertEqual([desk.claim(question) for question in desk.watched], [
            ("passed", 2, False), ("sure", 0, False), ("not reach", (2, 0, 2))])

    def test_no_question_for_the_tour(self):
        question = ("reach", (0, 0))
        desk = led(tour_of(2), ("watch", ("round",)), ("watch", question))
        self.assertEqual((desk.claim(question), desk.paper(question)), (question, ()))
        desk.enter(12)
        self.assertEqual(desk.report(), ("kept", "none"))
        self.assertEqual((desk.claim(question), desk.paper(question)), (None, None))
        self.assertEqual(desk.watched, (("round",), question))
        desk.pair(())
        self.assertEqual(desk.report()[1], "none")
        self.assertEqual((desk.claim(question), desk.paper(question)), (None, None))
        # It is not asked for anew where it is no question, and left as any other.
        self.check_error(InvalidQuestion, question, desk, "watch", question)
        desk.undo()
        self.assertEqual(desk.report()[1], "none")
        desk.undo()
        self.assertEqual(desk.report()[1], "changed")
        self.assertEqual((desk.claim(question), desk.paper(question)), (question, ()))
        desk.redo()
        self.assertEqual(desk.report()[1], "none")
        desk.leave(question)
        self.assertEqual(desk.watched, (("round",),))
        self.check_error(Undefined, "watched", desk, "claim", question)
        # It comes to be watched by this undo, and is none then.
        desk.undo()
        self.assertEqual(desk.report()[1], "new")
        self.assertEqual((desk.claim(question), desk.paper(question)), (None, None))
        desk.undo()
        self.assertEqual(desk.report()[1], "changed")
        self.assertEqual(desk.claim(question), question)

    def test_what_was_kept_is_forgotten(self):
        """Behind a tour for which it is none the question is answered anew."""
        question = ("reach", (2, 2, 2))
        open_ring = tour_of(3, (((0, 1, -1),), ((0, 2, -1),), ((1, 2, -1),)))
        desk = led(open_ring, ("score", 0, 0, 1, 1), ("watch", question), ("watch", ("meet",)), ("enter", 12))
        self.assertEqual((desk.claim(question), desk.report()[0]), (None, "none"))
        desk.undo()
        self.assertEqual((desk.claim(question), desk.report()[0]), (question, "changed"))
        self.assertEqual(desk.paper(question), paper_of(desk.tour, question))

    def test_what_was_kept_before_is_not_taken_up_again(self):
        question = ("reach", (0, 2))
        desk = led(tour_of(2, (((0, 1, -1),),)), ("watch", question), ("enter", 5))
        self.assertIsNone(desk.paper(question))
        desk.undo()
        self.assertEqual(desk.paper(question), (0,))
        desk.score(0, 0, 1, 2)
        self.assertEqual((desk.report(), desk.claim(question)), (("changed",), ("not reach", (0, 2))))

    def test_questions_of_players_who_come(self):
        desk = led(tour_of(2), ("enter", 12), ("watch", ("first", 2, False)), ("watch", ("reach", (0, 0, 0))))
        self.assertEqual(desk.claim(("first", 2, False)), ("first", 2, False))
        desk.undo()
        desk.undo()
        self.assertEqual(desk.watched, ())
        desk.undo()
        value = ("first", 2, False)
        self.check_error(InvalidQuestion, value, desk, "watch", value)
        desk.redo()
        desk.redo()
        self.assertEqual((desk.watched, desk.report()), ((value,), ("new",)))

    def test_the_report_of_each_deed(self):
        desk = Desk(tour_of(2))
        self.assertEqual(desk.report(), ())
        desk.pair(())
        self.assertEqual(desk.report(), ())
        desk.watch(("meet",))
        self.assertEqual(desk.report(), ("new",))
        desk.watch(("meet",))
        self.assertEqual(desk.report(), ("kept",))
        desk.undo()
        self.assertEqual(desk.report(), ("kept",))
        desk.undo()
        self.assertEqual(desk.report(), ())
        desk.redo()
        self.assertEqual(desk.report(), ("new",))
        desk.pair(((0, 1),))
        self.assertEqual(desk.report(), ("changed",))
        desk.undo()
        self.assertEqual(desk.report(), ("changed",))
        desk.leave(("meet",))
        self.assertEqual(desk.report(), ())
        # What raises an error is no deed.
        desk.undo()
        with self.assertRaises(InvalidRound):
            desk.pair(None)
        self.assertEqual(desk.report(), ("new",))
        self.assertTrue(is_all_plain(desk.report()))


class LedTest(DeskCase):
    """Desks that are led through rows of drawn deeds, beside a model of them."""

    def step(self, desk, model, name, *args):
        """One deed, or its error, on both; whether it was a deed."""
        tour, watched = model.states[model.at]
        if name in ("undo", "redo"):
            can = model.at > 0 if name == "undo" else model.at < len(model.states) - 1
            if not can:
                self.check_error(NothingToUndo, name, desk, name)
                return False
            model.go(-1 if name == "undo" else 1)
        else:
            new = (tour, watched)
            if name in EDITS:
                found = slow_edit(tour, name, *args)
                new = (found, watched) if type(found) is Tour else found
            else:
                found = watch_and_leave(tour, watched, name, *args)
                new = (tour, found) if not found or type(found[0]) is tuple else found
            if type(new[0]) is not Tour:
                self.check_error(*new, desk, name, *args)
                return False
            model.do(*new)
        old = {question: desk.paper(question) for question in desk.watched}
        self.assertIsNone(getattr(desk, name)(*args))
        self.compare(desk, model)
        for question, word in zip(desk.watched, desk.report()):
            if word == "kept":
                self.assertIs(desk.paper(question), old[question])
        return True

    def compare(self, desk, model):
        tour, watched = model.states[model.at]
        self.assertEqual(desk.tour, tour)
        self.assertTrue(same_kinds(desk.watched, watched))
        self.assertEqual(desk.many, model.at)
        self.assertEqual(desk.report(), model.words)
        for question in watched:
            claim, paper = model.kept[question]
            self.assertTrue(same_kinds(desk.claim(question), claim))
            self.assertTrue(same_kinds(desk.paper(question), paper))
            self.assertTrue(is_all_plain((desk.claim(question), desk.paper(question))))

    def questions_to_ask(self, draw, tour):
        """Questions for the tour and for such with one player more or less."""
        found = []
        for many in range(max(1, tour.many - 1), min(6, tour.many + 1) + 1):
            found += drawn_questions(draw, tour_of(many), {(): (draw.randint(0, 3),) * many}, 1)
        ends = slow_ends(tour)
        return found + [("reach", draw.choice(list(ends.values()))) for _ in range(4)] + [("meet",), ("round",)] * 2

    def test_drawn_deeds(self):
        draw = random.Random(163)
        words = {word: 0 for word in ("new", "none", "kept", "renewed", "changed")}
        done = {}
        for _ in range(45):
            tour = drawn_tour(draw)
            questions = self.questions_to_ask(draw, tour)
            desk, twin, model = Desk(tour), Desk(tour), Model(tour)
            deeds = 0
            while deeds < 30:
                name, *args = drawn_deed(draw, model, questions)
                if self.step(desk, model, name, *args):
                    deeds += 1
                    getattr(twin, name)(*args)
                    done[name] = done.get(name, 0) + 1
                    for word in desk.report():
                        words[word] += 1
            # The twin was spared all calls that are refused.
            self.assertIs(same_state(desk, twin), True)
        self.assertGreater(min(words.values()), 10, words)
        self.assertEqual(len(done), 11, done)

    def test_sixty_drawn_deeds_with_eight_questions(self):
        draw = random.Random(164)
        for tour in (tour_of(6), tour_of(6, SEVEN_OPEN, bye=1), tour_of(5, ((),) * 6), tour_of(3)):
            questions = self.questions_to_ask(draw, tour)
            desk, model = Desk(tour), Model(tour)
            deeds = 0
            while len(model.states[model.at][1]) < 8:
                deeds += self.step(desk, model, "watch", draw.choice(questions))
            while deeds < 60:
                name, *args = drawn_deed(draw, model, questions)
                if name != "leave":
                    deeds += self.step(desk, model, name, *args)

    def test_claims_are_true_and_papers_hold(self):
        draw = random.Random(165)
        for _ in range(12):
            tour = drawn_tour(draw)
            questions = self.questions_to_ask(draw, tour)
            desk, model = Desk(tour), Model(tour)
            for _ in range(25):
                name, *args = drawn_deed(draw, model, questions)
                if not self.step(desk, model, name, *args):
                    continue
                tour, watched = model.states[model.at]
                ends = slow_ends(tour) if watched else {}
                for question in watched:
                    claim, paper = desk.claim(question), desk.paper(question)
                    if slow_is_question(tour, question):
                        self.assertEqual(claim, slow_answer(tour, question, ends))
                        self.assertIn(claim, claims_for(question))
                        self.assertTrue(slow_holds(tour, claim, paper, ends))
                    else:
                        self.assertEqual((claim, paper), (None, None))

    def test_two_desks_led_by_turns(self):
        draw = random.Random(166)
        for _ in range(8):
            tours = [drawn_tour(draw), drawn_tour(draw)]
            questions = self.questions_to_ask(draw, tours[0]) + self.questions_to_ask(draw, tours[1])
            both = [(Desk(tour), Model(tour)) for tour in tours] + [(Desk(tours[0]), Model(tours[0]))]
            for _ in range(50):
                desk, model = draw.choice(both)
                self.step(desk, model, *drawn_deed(draw, model, questions))
                for one, other in both:
                    self.compare(one, other)


class SameStateTest(DeskCase):
    def test_desks_led_alike(self):
        deeds = [("watch", ("round",)), ("pair", ((0, 1),)), ("watch", ("first", 0, True)), ("score", 0, 0, 1, 2),
                 ("undo",)]
        for k in range(len(deeds) + 1):
            one, other = led(tour_of(3), *deeds[:k]), led(tour_of(3), *deeds[:k])
            self.assertIs(same_state(one, other), True)
            self.assertIs(same_state(one, one), True)
            for more in range(k + 1, len(deeds) + 1):
                self.assertIs(same_state(one, led(tour_of(3), *deeds[:more])), False)
                self.assertIs(same_state(led(tour_of(3), *deeds[:more]), one), False)

    def test_other_tours(self):
        for other in (tour_of(2), tour_of(3, bye=1), tour_of(3, barred=((0, 1),)), tour_of(3, ((),)),
                      tour_of(3, stays=((0, 3),) * 3)):
            self.assertIs(same_state(Desk(tour_of(3)), Desk(other)), False)
            self.assertIs(same_state(Desk(other), Desk(tour_of(3))), False)
        self.assertIs(same_state(Desk(tour_of(3)), Desk(tour_of(3))), True)

    def test_other_questions_and_their_order(self):
        one = led(tour_of(3), ("watch", ("round",)), ("watch", ("meet",)))
        self.assertIs(same_state(one, led(tour_of(3), ("watch", ("meet",)), ("watch", ("round",)))), False)
        self.assertIs(same_state(one, led(tour_of(3), ("watch", ("round",)), ("watch", ("further", 1)))), False)
        self.assertIs(same_state(one, led(tour_of(3), ("watch", ("round",)), ("watch", ("round",)))), False)
        self.assertIs(same_state(one, led(tour_of(3), ("watch", ("round",)), ("watch", ("meet",)))), True)

    def test_other_papers(self):
        """Equal tours, questions and numbers, but the one has a paper that it kept."""
        one = led(tour_of(4, barred=((0, 1),)), ("watch", ("round",)), ("admit", 0, 1))
        other = led(tour_of(4, barred=((0, 1),)), ("admit", 0, 1), ("watch", ("round",)))
        self.assertEqual((one.tour, one.watched, one.many), (other.tour, other.watched, other.many))
        self.assertNotEqual(one.paper(("round",)), other.paper(("round",)))
        self.assertIs(same_state(one, other), False)
        one.leave(("round",))
        other.leave(("round",))
        self.assertIs(same_state(one, other), True)

    def test_numbers_of_deeds(self):
        plain, done = Desk(tour_of(2)), led(tour_of(2), ("part", 0, 1), ("admit", 0, 1))
        self.assertEqual(plain.tour, done.tour)
        self.assertIs(same_state(plain, done), False)
        undone = led(tour_of(2), ("part", 0, 1), ("undo",))
        self.assertEqual((plain.tour, plain.many), (undone.tour, undone.many))
        self.assertIs(same_state(plain, undone), False)
        self.assertIs(same_state(undone, plain), False)
        self.assertIs(same_state(undone, led(tour_of(2), ("pair", ()), ("undo",))), True)
        twice = led(tour_of(2), ("pair", ()), ("pair", ()), ("undo",), ("undo",))
        self.assertIs(same_state(undone, twice), False)

    def test_the_same_another_way(self):
        """What was done does not matter, but for what is shown and how much can be undone and redone."""
        one = led(tour_of(3), ("part", 0, 1), ("watch", ("meet",)))
        other = led(tour_of(3), ("pair", ()), ("undo",), ("part", 0, 1), ("watch", ("meet",)))
        self.assertIs(same_state(one, other), True)


class ObjectTest(DeskCase):
    def test_equal_to_itself_alone(self):
        one, other = Desk(tour_of(2)), Desk(tour_of(2))
        self.assertTrue(one == one)
        self.assertFalse(one != one)
        self.assertFalse(one == other)
        self.assertTrue(one != other)
        for value in any_values():
            self.assertFalse(one == value)
            self.assertFalse(value == one)

    def test_not_iterable(self):
        with self.assertRaises(TypeError):
            iter(Desk(tour_of(2)))
        with self.assertRaises(TypeError):
            list(Desk(tour_of(2)))

    def test_the_methods_stand_in_the_class(self):
        for name in EDITS + ("watch", "leave", "undo", "redo", "claim", "paper", "report", "__init__"):
            self.assertIn(name, vars(Desk))

    def test_later_changes_of_arguments_have_no_effect(self):
        """Nothing that can change is taken."""
        desk = Desk(tour_of(3))
        for value in ([(0, 1)], ([0, 1],)):
            self.check_error(InvalidRound, value, desk, "pair", value)
        for value in (["round"], ("reach", [0, 0, 0])):
            self.check_error(InvalidQuestion, value, desk, "watch", value)

    def test_reading_changes_nothing(self):
        desk = led(tour_of(4), ("watch", ("round",)), ("watch", ("meet",)), ("pair", ((0, 1),)), ("undo",))
        before = shown(desk)
        for _ in range(3):
            self.assertEqual(shown(desk), before)
            self.assertIs(same_state(desk, desk), True)
        desk.redo()
        self.assertNotEqual(shown(desk), before)


if __name__ == "__main__":
    unittest.main()
