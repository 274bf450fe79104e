"""[18]: papers for claims of all kinds; promise (11)."""

import random
import unittest

from roundsettle.claims import answer_of
from roundsettle.errors import InvalidQuestion
from roundsettle.papers import claim_holds, paper_of
from roundsettle.pairing import bar, full_round
from roundsettle.tours import Tour
from tests.helper import (
    CLAIM_WORDS, OwnInt, OwnStr, Three, Two, any_values, changed_ones, claims_for, drawn_questions, drawn_tours,
    is_all_plain, later, same_kinds, slow_answer, slow_ends, slow_holds, slow_is_claim,
    tour_of, tours_with_open,
)

SEVEN = (((0, 1, -1), (2, 3, -1), (4, 5, -1)), ((0, 2, -1), (1, 4, -1), (3, 5, -1)), ((0, 3, -1), (1, 2, 2)))
AWAY = (0, 0)


def tours_to_look_at(seed, number):
    found = [tour_of(many) for many in range(1, 7)] + drawn_tours(seed, number)
    found += [later(tour, 8 - len(tour.rounds)) for tour in drawn_tours(seed + 1, number // 4)]
    return found + tours_with_open(seed + 2, 3, number // 4)


def some_of(draw, values, number):
    return values if len(values) <= number else draw.sample(values, number)


class PaperTest(unittest.TestCase):
    def test_the_true_claim_has_a_paper(self):
        draw = random.Random(140)
        told = {word: 0 for word in CLAIM_WORDS}
        for tour in tours_to_look_at(141, 60) + tours_with_open(144, 7, 3) + [tour_of(6, SEVEN)]:
            ends = slow_ends(tour)
            for question in drawn_questions(draw, tour, ends):
                claim, paper = slow_answer(tour, question, ends), paper_of(tour, question)
                self.assertIs(claim_holds(tour, claim, paper), True)
                self.assertTrue(slow_holds(tour, claim, paper, ends))
                self.assertTrue(is_all_plain(paper))
                told[claim[0]] += 1
        self.assertGreater(min(told.values()), 20)

    def test_other_claims_do_not_have_it(self):
        draw = random.Random(145)
        for tour in tours_to_look_at(146, 40):
            ends = slow_ends(tour)
            for question in drawn_questions(draw, tour, ends):
                claim, paper = answer_of(tour, question), paper_of(tour, question)
                for other in claims_for(question):
                    self.assertIs(claim_holds(tour, other, paper), other == claim)

    def test_no_paper_holds_for_a_claim_that_is_not_true(self):
        """Papers of all questions, and changed ones, are looked at with all claims."""
        draw = random.Random(148)
        for tour in drawn_tours(149, 25):
            ends = slow_ends(tour)
            questions = drawn_questions(draw, tour, ends, 1)
            papers = [paper_of(tour, question) for question in questions]
            papers += [other for paper in papers for other in some_of(draw, changed_ones(paper), 3)]
            for question in questions:
                true = slow_answer(tour, question, ends)
                for claim in claims_for(question):
                    for paper in papers:
                        found = claim_holds(tour, claim, paper)
                        self.assertIn(found, (True, False))
                        self.assertTrue(claim == true or not found, (claim, paper))

    def test_changed_papers(self):
        draw = random.Random(150)
        told = {(word, holds): 0 for word in CLAIM_WORDS for holds in (True, False)}
        for tour in tours_to_look_at(151, 60):
            ends = slow_ends(tour)
            for question in drawn_questions(draw, tour, ends):
                claim, paper = answer_of(tour, question), paper_of(tour, question)
                for other in some_of(draw, changed_ones(paper), 12):
                    expected = slow_holds(tour, claim, other, ends)
                    self.assertIs(claim_holds(tour, claim, other), expected, (claim, other))
                    told[claim[0], expected] += 1
        for word in CLAIM_WORDS:
            self.assertGreater(told[word, False], 50)
        # Of the others hardly one is left where one place is changed.
        for word in ("no round", "meet", "not reach", "first", "passed", "open"):
            self.assertGreater(told[word, True], 0, word)

    def test_papers_of_others(self):
        """Any paper that is one is taken, also where paper_of tells another."""
        draw = random.Random(153)
        for tour in drawn_tours(154, 40):
            ends = slow_ends(tour)
            for question in drawn_questions(draw, tour, ends, 1):
                claim = answer_of(tour, question)
                for other in some_of(draw, drawn_tours(155, 200), 12):
                    if other.many == tour.many:
                        paper = paper_of(other, question)
                        self.assertIs(claim_holds(tour, claim, paper), slow_holds(tour, claim, paper, ends))

    def test_questions_that_are_none(self):
        tour = tour_of(3)
        wrong = [
            ("no round",), ("meet", 3), ("further",), ("further", 5), ("further", True), ("reach", (0, 0)), ("reach",),
            ("first", 3, True), ("first", 0, 1), ("first", True, True), ("sure", 0), ("open", 0, True), ["round"],
            ("reach", (0, 0, 21)), ("reach", [0, 0, 0]), ("reach", (0, 0, False)), "round", (), tour,
        ]
        for value in wrong + any_values():
            with self.assertRaises(InvalidQuestion) as caught:
                paper_of(tour, value)
            self.assertIs(type(caught.exception), InvalidQuestion)
            self.assertIs(caught.exception.value, value)

    def test_equal_calls(self):
        draw = random.Random(157)
        for tour in drawn_tours(158, 40):
            twin = Tour(tour.many, tour.bye, tour.barred, tour.stays, tour.rounds)
            for question in drawn_questions(draw, tour, slow_ends(tour), 1):
                paper = paper_of(tour, question)
                self.assertEqual(paper_of(question=tuple(list(question)), tour=twin), paper)
                self.assertIs(claim_holds(paper=paper, claim=answer_of(twin, question), tour=twin), True)


class KindsTest(unittest.TestCase):
    def check(self, tour, claim, good, bad):
        for paper in good:
            self.assertIs(claim_holds(tour, claim, paper), True, (claim, paper))
        for paper in bad + any_values():
            if not any(same_kinds(paper, other) for other in good):
                self.assertIs(claim_holds(tour, claim, paper), False, (claim, paper))

    def test_any_full_round(self):
        tour = tour_of(4, barred=((0, 3),))
        good = [((0, 1), (2, 3)), ((0, 2), (1, 3))]
        self.check(tour, ("round",), good, [((0, 3), (1, 2)), ((0, 1),), ((2, 3), (0, 1)), (((0, 1), (2, 3)),), ()])
        self.check(tour, ("no round",), [], good + [(0,), (1,), (0, 1)])

    def test_any_bar(self):
        tour = tour_of(4, barred=((1, 2), (1, 3), (2, 3)))
        self.check(tour, ("no round",), [(0,)], [(1,), (0, 1), (), (0, 0), (4,), (True,), (False,), [0]])
        self.check(tour, ("round",), [], [((0, 1), (2, 3)), (), (0,)])
        odd = tour_of(3, ((),))
        self.check(odd, ("no round",), [()], [(0,), (3,), (0, 1), [], None])

    def test_further_rounds(self):
        tour = tour_of(4)
        rounds = (((0, 1), (2, 3)), ((0, 2), (1, 3)), ((0, 3), (1, 2)))
        self.check(tour, ("further", 2), [rounds[:2], rounds[1:], rounds[::-1][:2], rounds[::2]], [
            rounds, rounds[:1], (rounds[0], rounds[0]), list(rounds[:2]), (list(rounds[0]), rounds[1]), (), ((), ()),
            (rounds[0], ((0, 2),)), (rounds[0][::-1], rounds[1]), (rounds[0] + rounds[1],), rounds[:2] + ((),),
        ])
        self.check(tour, ("further", 0), [()], [((),), [], None, 0, rounds[:1]])
        self.check(tour, ("not further", 0), [], [(), ((),), ((((), ()),),), (((((), ())),), ())])
        self.check(tour, ("further", 4), [], [rounds + (rounds[0],), rounds + ((),), rounds])
        alone = tour_of(3, barred=((0, 2),))
        self.check(alone, ("further", 2), [(((0, 1),), ((1, 2),)), (((1, 2),), ((0, 1),))], [
            (((0, 1),), ((0, 1),)), (((0, 1),), ()), (((0, 2),), ((1, 2),))])

    def test_walls(self):
        tour = tour_of(2)
        start, met = ((), ()), (((0, 1),), ())
        self.check(tour, ("not further", 2), [((start,), (met,), ()), ((start,), (met, (((0, 1),), (1,))), ())], [
            ((start,), (), ()), ((start,), (start,), ()), ((start,), (met,)), ((start,), (met,), (), ()),
            ((), (met,), ()),
            ((start,), (met,), (met,)), [(start,), (met,), ()], ((start,), [met], ()), ((met,), (met,), ()),
        ])
        self.check(tour, ("not further", 1), [], [((start,), ()), ((start,), (met,)), ((), ())])

    def test_no_pair_may_meet(self):
        tours = [tour_of(1), tour_of(2, (((0, 1, -1),),)), tour_of(2, barred=((0, 1),)), tour_of(3, stays=(AWAY,) * 3)]
        for tour in tours:
            self.assertEqual(answer_of(tour, ("meet",)), ("meet", 0))
            self.assertEqual(paper_of(tour, ("meet",)), ((), ()))
            self.check(tour, ("meet", 0), [((), ())], [
                ((), (0,)), (((),), ()), ((),), ((), (), ()), [(), ()], ([], ()), ((), []), (), ((), None), (None, ()),
                ((), 0), (((0, 1),), ()), ((((0, 1),),), (0,)), ((), False), ((), ""),
            ])
            self.check(tour, ("meet", 1), [], [((), ()), ((), (0,)), ((((0, 1),),), (0,))])
        self.check(tour_of(2), ("meet", 0), [], [((), ()), ((((0, 1),),), ()), ((((0, 1),),), (0,))])

    def test_meeting_rounds_and_a_crowd(self):
        tour = tour_of(3)
        rounds = (((0, 1),), ((0, 2),), ((1, 2),))
        good = [(rounds, (0, 1, 2)), (rounds[::-1], (0, 1, 2))]
        self.check(tour, ("meet", 3), good, [
            (rounds, (0,)), (rounds, ()), (rounds[:2], (0, 1, 2)), (rounds,), (rounds, (0, 1, 2), ()), rounds,
            [rounds, (0, 1, 2)], (list(rounds), (0, 1, 2)), (rounds, [0, 1, 2]), (rounds, (0, 1, True)),
            ((), (0, 1, 2)),
            (rounds, (2, 1, 0)), ((0, 1, 2), rounds), (rounds + ((),), (0, 1, 2)), (rounds, (False, 1, 2)),
            (rounds, None),
        ])
        for k in (0, 1, 2, 4, 5, 10 ** 11):
            self.check(tour, ("meet", k), [], good + [(rounds, (0,)), (rounds, ()), ((), ())])
        more = tour_of(4, barred=((0, 2), (0, 3), (1, 2), (1, 3)))
        two = (((0, 1), (2, 3)),)
        self.check(more, ("meet", 1), [(two, (0,)), (two, (3,))], [(two, (0, 1)), (two, (0, 1, 2, 3))])
        # In so many rounds all can meet, but no crowd shows that fewer are not enough.
        apart = (((0, 1),), ((2, 3),))
        self.check(more, ("meet", 2), [], [(apart, (0,)), (apart, (0, 1, 2)), (apart, ()), (two, (0,))])

    def test_outcomes_with_the_target(self):
        ring = tour_of(3, (((0, 1, -1),), ((0, 2, -1),), ((1, 2, -1),)))
        good = [(0, 2, 0), (1, 1, 1), (2, 0, 2)]
        self.check(ring, ("reach", (2, 2, 2)), good, [
            (0, 0, 0), (1, 1), (1, 1, 1, 1), (True, 1, 1), [1, 1, 1], (), (0, 2, False), (0, 2, 3), (-1, 2, 0), None,
            111])
        self.check(ring, ("not reach", (2, 2, 2)), [], [("much", (0,)), ("little", (0, 1)), ("much", (0, 1, 2))])
        self.check(ring, ("reach", (6, 0, 0)), [], [(2, 2, 1), (2, 2, 2)])

    def test_too_much_or_too_little(self):
        tour = tour_of(3, (((0, 1, -1),), ((0, 2, 1),)))
        good = [("much", (1,)), ("much", (1, 2)), ("little", (0,)), ("little", (0, 2))]
        self.check(tour, ("not reach", (0, 3, 1)), good, [
            ("much", (0,)), ("little", (1,)), ("much",), ("much", 1), ("much", [1]), ["much", (1,)], ("much", (True,)),
            ("much", ()), ("more", (1,)), ("much", (1,), ()), ((1,), "much"), ("little", (False,)), (1, (1,)),
            (None, (1,)),
        ])
        self.check(tour, ("reach", (0, 3, 1)), [], [(0,), (1,), (2,), ()] + good)

    def test_first_and_passed(self):
        tour = tour_of(3, (((0, 1, -1),), ((0, 2, -1),)))
        self.check(tour, ("first", 1, False), [(0, 0), (0, 1), (0, 2)],
                   [(1, 1), (2, 0), (0,), (False, 0), (0, True), [0, 0]])
        self.check(tour, ("first", 1, True), [(0, 1)], [(0, 0), (0, 2), (0, True), (0, 1, 0)])
        self.check(tour, ("passed", 1, True), [], [(0,), (2,), (0, 2), ()])
        lost = tour_of(3, (((1, 2, -1),),))
        self.check(lost, ("passed", 0, False), [(1, 2)], [(1,), (2,), (0, 1, 2), (), (2, 1), [1, 2], (True, 2)])
        self.check(lost, ("passed", 0, True), [(1, 2), (1,), (2,)], [(0, 1), (0,), (True,), (1, 1)])
        self.check(lost, ("first", 0, False), [], [(0,), (1,), (2,), ()])

    def test_sure_and_open(self):
        tour = tour_of(4, (((0, 1, 2), (2, 3, -1)), ((0, 2, 2),)))
        mosts = (4, 0, 2, 2)
        for alone in (True, False):
            self.check(tour, ("sure", 0, alone), [mosts], [
                (4, 0, 2), (4, 0, 2, 2, 0), (4, 0, 2, 1), (4, 0, 3, 2), (0, 0, 2, 2), (4, False, 2, 2), [4, 0, 2, 2],
                (),
                (4, 0, 2, "2"), ((4, 0, 2, 2),), (4, 0, 2, None), 4, (2, 2, 0, 4), (4, 0, 2, 3), (5, 0, 2, 2),
            ])
            self.check(tour, ("open", 0, alone), [], [(0,), (1,), (2,), (), mosts])
            self.check(tour, ("sure", 2, alone), [], [mosts, (0,), ()])
            self.check(tour, ("open", 2, alone), [(0,), (1,), (2,)], [(3,), (-1,), (True,), (False,), [0], (0, 0), ()])
        even = tour_of(3, (((0, 1, 2),), ((0, 2, -1),)))
        self.check(even, ("sure", 0, False), [(4, 0, 2)], [(4, 0, 4), (2, 0, 2)])
        self.check(even, ("sure", 0, True), [], [(4, 0, 2)])
        self.check(even, ("open", 0, True), [(0,)], [(1,), (2,), (False,)])
        self.check(even, ("open", 0, False), [], [(0,), (1,), (2,)])

    def test_claims_that_are_none(self):
        tour = tour_of(4, (((0, 1, 2), (2, 3, -1)),))
        ends = slow_ends(tour)
        questions = (("round",), ("further", 1), ("meet",), ("reach", (2, 0, 1, 1)), ("first", 0, True),
                     ("sure", 1, False))
        for question in questions:
            claim, paper = answer_of(tour, question), paper_of(tour, question)
            self.assertIs(claim_holds(tour, claim, paper), True)
            for other in changed_ones(claim):
                expected = slow_is_claim(tour, other) and slow_holds(tour, other, paper, ends)
                self.assertIs(claim_holds(tour, other, paper), expected, (other, paper))
            for other in any_values() + [(), paper, (claim,), (claim, paper), list(claim)]:
                self.assertIs(claim_holds(tour, other, paper), False)
                self.assertIs(claim_holds(tour, other, other), False)

    def test_claims_of_a_tour_with_more_players(self):
        less, more = tour_of(2), tour_of(3)
        for question in (("first", 2, False), ("reach", (0, 0, 0)), ("sure", 2, False)):
            claim, paper = answer_of(more, question), paper_of(more, question)
            self.assertIs(claim_holds(more, claim, paper), True)
            self.assertIs(claim_holds(less, claim, paper), False)
        self.assertIs(claim_holds(less, ("first", 1, 0), ()), False)
        self.assertIs(claim_holds(less, ("first", True, False), ()), False)
        self.assertIs(claim_holds(less, ("first", 1, False), ()), True)

    def test_other_classes(self):
        tour = tour_of(4)
        self.assertIs(claim_holds(tour, (OwnStr("round"),), Two(Two(0, OwnInt(1)), (2, 3))), True)
        self.assertIs(claim_holds(tour, Two("further", OwnInt(1)), (Two(Two(0, 1), (2, OwnInt(3))),)), True)
        self.assertIs(claim_holds(tour, Three("first", OwnInt(1), False), ()), True)
        self.assertIs(claim_holds(tour, Three("sure", OwnInt(1), False), (OwnInt(0), 0, 0, 0)), True)
        even = tour_of(2, (((0, 1, -1),),))
        self.assertIs(claim_holds(even, ("reach", Two(OwnInt(1), 1)), (OwnInt(1),)), True)
        self.assertIs(claim_holds(even, ("not reach", Two(OwnInt(3), 1)), Two(OwnStr("much"), (OwnInt(0),))), True)
        for question in ((OwnStr("round"),), Two("further", OwnInt(2)), Three(OwnStr("first"), OwnInt(1), True)):
            self.assertTrue(is_all_plain(paper_of(tour, question)))
        self.assertTrue(is_all_plain(paper_of(even, ("reach", Two(OwnInt(3), 1)))))

    def test_the_papers_are_those_of_the_functions(self):
        self.assertEqual(paper_of(tour_of(4), ("round",)), full_round(tour_of(4)))
        stuck = tour_of(3, ((),))
        self.assertEqual(paper_of(stuck, ("round",)), bar(stuck))
        self.assertEqual(paper_of(tour_of(2), ("further", 1)), (((0, 1),),))
        self.assertEqual(paper_of(tour_of(1), ("sure", 0, True)), (0,))


if __name__ == "__main__":
    unittest.main()
