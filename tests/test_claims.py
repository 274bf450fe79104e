"""[17]: questions, claims, and the true one of these; promise (11)."""

import random
import unittest
from collections import namedtuple
from itertools import product

from roundsettle.claims import answer_of, is_claim, is_question, question_of
from roundsettle.errors import InvalidClaim, InvalidQuestion
from roundsettle.tours import Tour
from tests.helper import (
    CLAIM_WORDS, DENIALS, OwnInt, OwnStr, Three, Two, any_values, claims_for, drawn_questions, drawn_tours, in_place,
    is_all_plain, later, same_kinds, slow_answer, slow_ends, slow_is_claim, slow_is_question, tour_of, tours_with_open,
)

One = namedtuple("One", "a")
OTHER_WORDS = (
    "", "Round", "rounds", "round ", "not round", "no", "not", "kept", "not first", "not sure", "no reach", "x",
)


def tours_to_look_at():
    found = [tour_of(many) for many in range(1, 7)] + drawn_tours(130, 60)
    found += [later(tour, 8 - len(tour.rounds)) for tour in drawn_tours(131, 15)]
    return found + tours_with_open(132, 3, 15) + tours_with_open(133, 7, 4)


def parts_for(tour):
    """Values that may stand behind a word, right and wrong ones."""
    row = (0,) * tour.many
    return [
        0, 1, 2, 4, 5, -1, tour.many - 1, tour.many, True, False, None, "", "0", (), row, row + (0,), row[1:],
        list(row), in_place(row, 0, True), in_place(row, 0, 20), in_place(row, 0, 21), in_place(row, 0, -1),
        in_place(row, 0, None), in_place(row, 0, "0"), in_place(row, 0, row), 10 ** 11, tour, [], [0], (0,),
    ]


def values_for(tour):
    """Tuples of all words and up to three such values, and more that begins with a word."""
    words = CLAIM_WORDS + OTHER_WORDS + (None, 0, True, ("round",), ["round"], b"round", tour)
    parts = parts_for(tour)
    found = [(word,) for word in words]
    found += [(word, part) for word in words for part in parts]
    found += [(word, one, other) for word in words for one, other in product(parts, repeat=2)]
    found += [(word, 0, True, other) for word in words for other in parts]
    found += [list(value) for value in found[:200]] + list(words) + [(value,) for value in found[:200]]
    return found


class FormsTest(unittest.TestCase):
    def test_questions_and_claims(self):
        for tour in (tour_of(1), tour_of(2), tour_of(6)):
            told = {word: 0 for word in CLAIM_WORDS}
            for value in values_for(tour):
                question, claim = slow_is_question(tour, value), slow_is_claim(tour, value)
                self.assertIs(is_question(tour, value), question, value)
                self.assertIs(is_claim(tour, value), claim, value)
                if claim:
                    told[value[0]] += 1
            self.assertGreater(min(told.values()), 0)

    def test_all_kinds(self):
        tour = tour_of(3)
        questions = [
            ("round",), ("further", 0), ("further", 4), ("meet",), ("reach", (0, 20, 3)), ("first", 0, True),
            ("first", 2, False), ("sure", 1, False), ("sure", 1, True),
        ]
        for value in questions:
            self.assertIs(is_question(tour, value), True)
            for claim in claims_for(value):
                self.assertIs(is_claim(tour, claim), True)
                self.assertIs(is_question(tour, claim), claim == value)
        self.assertIs(is_claim(tour, ("meet",)), False)
        for k in (0, 8, 100, 10 ** 12 - 1):
            self.assertIs(is_claim(tour, ("meet", k)), True)
        for k in (-1, True, False, None, "1", (), (1,)):
            self.assertIs(is_claim(tour, ("meet", k)), False)

    def test_bools_and_integers(self):
        tour = tour_of(3)
        for word in ("first", "sure", "passed", "open"):
            for value, good in (
                ((word, 1, True), True), ((word, 1, False), True), ((word, True, True), False), ((word, 1, 1), False),
                ((word, 1, 0), False), ((word, False, False), False), ((word, 0, 0), False), ((word, True, 1), False),
            ):
                self.assertIs(is_claim(tour, value), good)
                self.assertIs(is_question(tour, value), good and word in ("first", "sure"))
        for word in ("further", "not further"):
            self.assertIs(is_claim(tour, (word, 1)), True)
            self.assertIs(is_claim(tour, (word, True)), False)
            self.assertIs(is_claim(tour, (word, False)), False)
        for word in ("reach", "not reach"):
            self.assertIs(is_claim(tour, (word, (1, 0, 1))), True)
            self.assertIs(is_claim(tour, (word, (1, 0, True))), False)
            self.assertIs(is_claim(tour, (word, (1, False, 1))), False)

    def test_of_a_tour_with_one_player_more_or_less(self):
        for many in range(1, 6):
            less, more = tour_of(many), tour_of(many + 1)
            for word in ("first", "passed", "sure", "open"):
                self.assertIs(is_claim(less, (word, many, True)), False)
                self.assertIs(is_claim(more, (word, many, True)), True)
            for word in ("reach", "not reach"):
                self.assertIs(is_claim(less, (word, (1,) * (many + 1))), False)
                self.assertIs(is_claim(more, (word, (1,) * (many + 1))), True)
                self.assertIs(is_claim(more, (word, (1,) * many)), False)
            self.assertIs(is_question(less, ("first", many, True)), False)
            self.assertIs(is_question(more, ("reach", (1,) * many)), False)

    def test_any_value(self):
        for tour in (tour_of(1), tour_of(2), tour_of(6)):
            for value in any_values() + [(), "round", ["round"], ("round", ()), (("round",),), ("x" * 4000,)]:
                self.assertIs(is_question(tour, value), False)
                self.assertIs(is_claim(tour, value), False)
                for word in CLAIM_WORDS:
                    self.assertIs(is_claim(tour, (word, value)), slow_is_claim(tour, (word, value)))
                    self.assertIs(is_question(tour, (word, value)), slow_is_question(tour, (word, value)))
                    self.assertIs(is_claim(tour, (word, value, value)), False)

    def test_other_classes(self):
        tour = tour_of(3)
        for value in (
            One(OwnStr("round")), Two(OwnStr("further"), OwnInt(1)), Two("reach", Three(OwnInt(1), 0, 0)),
            Three("first", OwnInt(2), True), Three(OwnStr("sure"), 0, False),
        ):
            self.assertIs(is_question(tour, value), True)
            self.assertIs(is_claim(tour, value), True)
            found = question_of(tour, value)
            self.assertTrue(is_all_plain(found))
            self.assertEqual(found, value)
            self.assertTrue(is_all_plain(answer_of(tour, value)))
        self.assertIs(is_claim(tour, Two("meet", OwnInt(3))), True)
        self.assertIs(is_claim(tour, Two(OwnStr("not reach"), Three(0, 0, OwnInt(3)))), True)
        self.assertTrue(is_all_plain(question_of(tour, Two(OwnStr("not reach"), Three(0, 0, OwnInt(3))))))
        self.assertTrue(is_all_plain(answer_of(tour, One(OwnStr("meet")))))

    def test_names_of_parameters(self):
        tour = tour_of(3)
        self.assertIs(is_question(value=("round",), tour=tour), True)
        self.assertIs(is_claim(value=("meet", 3), tour=tour), True)
        self.assertEqual(answer_of(question=("meet",), tour=tour), ("meet", 3))
        self.assertEqual(question_of(claim=("meet", 2), tour=tour), ("meet",))


class AnswersTest(unittest.TestCase):
    def test_against_slow_answers(self):
        draw = random.Random(134)
        told = {word: 0 for word in CLAIM_WORDS}
        for tour in tours_to_look_at():
            ends = slow_ends(tour)
            for question in drawn_questions(draw, tour, ends):
                found = answer_of(tour, question)
                self.assertTrue(same_kinds(found, slow_answer(tour, question, ends)), (found, question))
                self.assertIs(is_claim(tour, found), True)
                self.assertEqual(question_of(tour, found), question)
                told[found[0]] += 1
        self.assertGreater(min(told.values()), 20)

    def test_answers(self):
        tour = tour_of(3, (((0, 1, -1),), ((1, 2, 2),)))
        for question, claim in (
            (("round",), ("round",)), (("further", 1), ("further", 1)), (("further", 2), ("not further", 2)),
            (("meet",), ("meet", 1)), (("reach", (1, 3, 0)), ("reach", (1, 3, 0))),
            (("reach", (1, 2, 0)), ("not reach", (1, 2, 0))), (("first", 0, False), ("first", 0, False)),
            (("first", 0, True), ("passed", 0, True)), (("first", 2, False), ("passed", 2, False)),
            (("sure", 1, False), ("sure", 1, False)), (("sure", 1, True), ("open", 1, True)),
            (("sure", 0, False), ("open", 0, False)),
        ):
            self.assertTrue(same_kinds(answer_of(tour, question), claim))
        free = tour_of(3)
        self.assertEqual(answer_of(free, ("round",)), ("round",))
        self.assertEqual(answer_of(free, ("meet",)), ("meet", 3))
        self.assertEqual(answer_of(tour_of(1), ("meet",)), ("meet", 0))
        stuck = tour_of(2, (((0, 1, -1),),))
        self.assertEqual(answer_of(stuck, ("round",)), ("no round",))
        self.assertEqual(answer_of(stuck, ("further", 1)), ("not further", 1))
        self.assertEqual(answer_of(stuck, ("further", 0)), ("further", 0))

    def test_questions_of_claims(self):
        for tour in drawn_tours(135, 30):
            for question in drawn_questions(random.Random(136), tour, {(): (0,) * tour.many}):
                for claim in claims_for(question):
                    found = question_of(tour, claim)
                    self.assertTrue(same_kinds(found, question))
                    self.assertTrue(is_all_plain(found))

    def test_wrong_questions_and_claims(self):
        for tour in (tour_of(1), tour_of(3)):
            for value in values_for(tour)[::7] + any_values() + [(), ("meet", 3), ("no round",), ("first", 0, 1)]:
                if not slow_is_question(tour, value):
                    with self.assertRaises(InvalidQuestion) as caught:
                        answer_of(tour, value)
                    self.assertIs(type(caught.exception), InvalidQuestion)
                    self.assertIs(caught.exception.value, value)
                if not slow_is_claim(tour, value):
                    with self.assertRaises(InvalidClaim) as caught:
                        question_of(tour, value)
                    self.assertIs(type(caught.exception), InvalidClaim)
                    self.assertIs(caught.exception.value, value)

    def test_equal_calls(self):
        draw = random.Random(137)
        for tour in drawn_tours(138, 30):
            twin = Tour(tour.many, tour.bye, tour.barred, tour.stays, tour.rounds)
            for question in drawn_questions(draw, tour, slow_ends(tour), 1):
                self.assertEqual(answer_of(tour, question), answer_of(twin, tuple(list(question))))

    def test_a_denial_is_no_question(self):
        for word, denial in DENIALS.items():
            self.assertNotEqual(word, denial)
            self.assertIs(is_question(tour_of(2), (denial,)), False)
            self.assertIs(is_question(tour_of(2), (denial, 0)), False)
            self.assertIs(is_question(tour_of(2), (denial, 0, True)), False)


if __name__ == "__main__":
    unittest.main()
