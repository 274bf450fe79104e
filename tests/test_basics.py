"""[2], [4] and the interface: arguments, their names, where things are defined, sizes."""

import ast
import copy
import functools
import inspect
import random
import unittest
from pathlib import Path

import roundsettle
from roundsettle import (
    claims, desk, errors, finals, firsts, further, knockouts, known, meetings, pairing, papers, settling, tours,
)
from tests.helper import (
    all_beats, any_values, drawn_beats, drawn_questions, drawn_tours, is_all_plain, is_plain, of_own, same_kinds,
    slow_open_games, tour_of, tours_with_open,
)

FOLDER = Path(roundsettle.__file__).parent
INTERFACE = {
    tours: {
        "Tour": ["many", "bye", "barred", "stays", "rounds"],
        "points": ["tour"], "weights": ["tour"], "order": ["tour"],
    },
    pairing: {
        "may_meet": ["tour"], "may_rest": ["tour"], "is_full_round": ["tour", "value"],
        "full_round": ["tour"], "bar": ["tour"], "bar_holds": ["tour", "value"],
    },
    further: {
        "further": ["tour", "k"], "walls": ["tour", "k"], "walls_hold": ["tour", "k", "value"],
    },
    meetings: {
        "meeting": ["tour"], "rounds_to_meet": ["tour"], "is_meeting": ["tour", "value"],
        "crowd": ["tour"], "crowd_holds": ["tour", "k", "value"],
    },
    finals: {
        "open_games": ["tour"], "final": ["tour", "outcomes"], "reaches": ["tour", "target"],
        "reach_paper": ["tour", "target"], "reach_holds": ["tour", "target", "value"],
    },
    firsts: {
        "first_outcomes": ["tour", "player", "alone"], "passing": ["tour", "player", "alone"],
        "passing_holds": ["tour", "player", "alone", "value"], "sure_first": ["tour", "player", "alone"],
        "other_outcomes": ["tour", "player", "alone"], "ranks": ["tour", "player"],
    },
    known: {
        "is_known": ["many", "value"], "known_from": ["many", "pairs"], "settled": ["many", "known", "rank"],
        "results": ["many", "known", "bouts"],
    },
    settling: {
        "least_rounds": ["many", "known", "rank"], "best_round": ["many", "known", "rank"],
        "settle_table": ["many", "known", "rank"], "table_holds": ["many", "known", "rank", "number", "value"],
    },
    knockouts: {
        "are_beats": ["value"], "winner": ["beats", "draw"], "draw_for": ["beats", "player"], "can_win": ["beats"],
        "kings": ["beats"], "winners_table": ["beats"], "bars_hold": ["beats", "player", "value"],
    },
    claims: {
        "is_question": ["tour", "value"], "is_claim": ["tour", "value"], "answer_of": ["tour", "question"],
        "question_of": ["tour", "claim"],
    },
    papers: {"paper_of": ["tour", "question"], "claim_holds": ["tour", "claim", "paper"]},
    desk: {"Desk": ["tour"], "same_state": ["one", "other"]},
}
METHODS = {
    "pair": ["pairs"], "score": ["r", "a", "b", "points"], "cancel": [], "enter": ["last"], "withdraw": ["player"],
    "part": ["a", "b"], "admit": ["a", "b"], "watch": ["question"], "leave": ["question"], "undo": [], "redo": [],
    "claim": ["question"], "paper": ["question"], "report": [],
}


def told(call, *args):
    """What a call returns, or the word of its Undefined."""
    try:
        return call(*args)
    except errors.Undefined as error:
        return [error.what]
    except (errors.InvalidRound, errors.InvalidClaim) as error:
        return [error.value]


def told_by_name(call, names):
    """The same with the arguments by the names of the parameters, the last one first."""
    return told(functools.partial(call, **dict(reversed(list(names.items())))))


def same_told(one, other):
    """Whether two calls came to the same, where errors keep their arguments to equal ones."""
    if type(one) is list or type(other) is list:
        return type(one) is type(other) and one == other
    return same_kinds(one, other)


def refused(call, *args):
    """Whether a call raises an error of the package."""
    try:
        call(*args)
    except errors.RoundError:
        return True
    return False


def calls_of(tour):
    """Calls of all functions with this tour, each with its other arguments."""
    points = tours.points(tour)
    found = [(call,) for call in (
        tours.points, tours.weights, tours.order, pairing.may_meet, pairing.may_rest, pairing.full_round,
        pairing.bar, meetings.meeting, meetings.rounds_to_meet, meetings.crowd, finals.open_games,
    )]
    found += [(pairing.is_full_round, ((0, 1),)), (pairing.bar_holds, (0,)), (meetings.is_meeting, (((0, 1),),))]
    found += [(call, k) for call in (further.further, further.walls) for k in range(5)]
    found += [(further.walls_hold, 1, ((((), ()),), ())), (meetings.crowd_holds, 1, (0,))]
    found += [(finals.final, (won,) * len(slow_open_games(tour))) for won in range(3)]
    for goal in range(0, 5):
        target = (goal,) * tour.many
        found += [(finals.reaches, target), (finals.reach_paper, target)]
        found += [(finals.reach_holds, target, (word, (0,))) for word in ("much", "little")]
    for player in range(tour.many):
        found.append((firsts.ranks, player))
        for alone in (False, True):
            found += [(call, player, alone) for call in (
                firsts.first_outcomes, firsts.passing, firsts.sure_first, firsts.other_outcomes)]
            found.append((firsts.passing_holds, player, alone, (0,)))
    for question in drawn_questions(random.Random(9), tour, {(): points}, 1):
        found += [(call, question) for call in (
            claims.is_question, claims.is_claim, claims.answer_of, claims.question_of, papers.paper_of)]
        claim = claims.answer_of(tour, question)
        found += [(claims.question_of, claim), (papers.claim_holds, claim, papers.paper_of(tour, question))]
    return found


def calls_of_beats():
    """Calls of all functions of knock-outs, each with its arguments."""
    draw = random.Random(10)
    found = []
    for beats in all_beats(2) + all_beats(4)[::7] + [drawn_beats(draw, 8) for _ in range(3)]:
        table = knockouts.winners_table(beats)
        found += [(call, beats) for call in (
            knockouts.are_beats, knockouts.can_win, knockouts.kings, knockouts.winners_table)]
        found.append((knockouts.winner, beats, tuple(draw.sample(range(len(beats)), len(beats)))))
        for player in range(len(beats)):
            found += [(knockouts.draw_for, beats, player), (knockouts.bars_hold, beats, player, table)]
    return found


def calls_of_orders():
    """Calls of all functions of hidden orders, each with its arguments."""
    found = []
    for many in range(1, 5):
        for told in ((), ((0, 1),), ((0, 1), (2, 3)), ((1, 0), (2, 0), (2, 1))):
            found += [(known.is_known, many, told), (known.known_from, many, told)]
            found += [(known.results, many, told, ((0, 1),)), (known.results, many, told, ((0, 2), (1, 3)))]
            for rank in range(1, many + 1):
                found += [(call, many, told, rank) for call in (
                    known.settled, settling.least_rounds, settling.best_round, settling.settle_table)]
                found += [(settling.table_holds, many, told, rank, number, ((told, 0),)) for number in (0, 1)]
    return [(call, *args) for call, *args in found if call is known.is_known or known.is_known(args[0], args[1])]


class InterfaceTest(unittest.TestCase):
    def test_names_of_parameters(self):
        for module, names in INTERFACE.items():
            for name, parameters in names.items():
                found = list(inspect.signature(getattr(module, name)).parameters)
                self.assertEqual(found, parameters)

    def test_methods(self):
        for name, parameters in METHODS.items():
            found = list(inspect.signature(vars(desk.Desk)[name]).parameters)
            self.assertEqual(found[1:], parameters)

    def test_defined_where_they_are_listed(self):
        for module, names in INTERFACE.items():
            tree = ast.parse(Path(module.__file__).read_text())
            found = [node.name for node in tree.body if isinstance(node, (ast.FunctionDef, ast.ClassDef))]
            for name in names:
                self.assertIn(name, found)

    def test_attributes_are_set_when_a_tour_is_made(self):
        self.assertEqual(sorted(vars(tour_of(2))), ["barred", "bye", "many", "rounds", "stays"])
        made = desk.Desk(tour_of(2))
        self.assertEqual((made.tour, made.watched, made.many), (tour_of(2), (), 0))

    def test_every_function_is_called_here(self):
        called = {call[0] for call in calls_of(tour_of(3, (((0, 1, -1),),))) + calls_of_orders() + calls_of_beats()}
        for module, names in INTERFACE.items():
            for name in names:
                if name not in ("Tour", "Desk", "same_state"):
                    self.assertIn(getattr(module, name), called)


class NothingChangesTest(unittest.TestCase):
    def test_calls_change_no_argument_and_are_repeated_alike(self):
        for tour in drawn_tours(8, 100) + tours_with_open(9, 7, 3):
            twin = copy.deepcopy(tour)
            first = [told(call, tour, *more) for call, *more in calls_of(tour)]
            self.assertEqual([told(call, tour, *more) for call, *more in calls_of(tour)], first)
            self.assertEqual([told(call, twin, *more) for call, *more in calls_of(twin)], first)
            self.assertEqual(vars(tour), vars(twin))
            for call, *more in calls_of(tour):
                names = inspect.signature(call).parameters
                self.assertEqual(told(call, tour, *more), told_by_name(call, dict(zip(names, [tour, *more]))))

    def test_calls_without_a_tour_are_repeated_alike(self):
        calls = calls_of_orders() + calls_of_beats()
        first = [told(call, *args) for call, *args in calls]
        self.assertEqual([told(call, *args) for call, *args in calls], first)
        self.assertEqual([told(call, *copy.deepcopy(args)) for call, *args in calls], first)
        for (call, *args), found in zip(calls, first):
            names = inspect.signature(call).parameters
            self.assertEqual(told_by_name(call, dict(zip(names, args))), found)

    def test_two_tours_by_turns(self):
        draw = random.Random(11)
        both = drawn_tours(12, 12)
        for one, other in zip(both[::2], both[1::2]):
            calls = [(tour, call) for tour in (one, other) for call in calls_of(tour)]
            first = [told(call[0], tour, *call[1:]) for tour, call in calls]
            mixed = list(zip(calls, first))
            draw.shuffle(mixed)
            for (tour, call), found in mixed:
                self.assertTrue(same_told(told(call[0], tour, *call[1:]), found))

    def test_all_that_is_returned_is_plain(self):
        """Also where all arguments are of classes of their own, and the same is returned then."""
        for tour in drawn_tours(13, 60) + tours_with_open(14, 7, 2):
            twin = tours.Tour(*[of_own(part) for part in (tour.many, tour.bye, tour.barred, tour.stays, tour.rounds)])
            self.assertTrue(is_plain((twin.many, twin.bye, twin.barred, twin.stays, twin.rounds)))
            for call, *more in calls_of(tour):
                self.check_plain(told(call, tour, *more), told(call, twin, *[of_own(arg) for arg in more]))
        for call, *args in calls_of_orders() + calls_of_beats():
            self.check_plain(told(call, *args), told(call, *[of_own(arg) for arg in args]))

    def check_plain(self, found, of_others):
        self.assertTrue(same_told(found, of_others), (found, of_others))
        if type(found) is not list:
            self.assertTrue(is_all_plain(found))
            self.assertTrue(is_all_plain(of_others))

    def test_objects_are_not_iterable(self):
        for value in (tour_of(2), desk.Desk(tour_of(2)), errors.Undefined("round")):
            with self.assertRaises(TypeError):
                iter(value)

    def test_objects_are_equal_to_nothing_else(self):
        made = desk.Desk(tour_of(2))
        for value in any_values():
            self.assertFalse(made == value)
            if value != tour_of(2):
                self.assertFalse(tour_of(2) == value)
        self.assertFalse(made == tour_of(2))
        self.assertFalse(tour_of(2) == made)
        self.assertFalse(made == desk.Desk(made.tour))

    def test_values_that_are_looked_at_do_not_change(self):
        tour = tour_of(4)
        made = desk.Desk(tour)
        for value in any_values():
            before = copy.deepcopy(value)
            for call in (pairing.is_full_round, pairing.bar_holds, meetings.is_meeting):
                call(tour, value)
            for call in (further.walls_hold, meetings.crowd_holds, finals.reach_holds):
                call(tour, 1, value)
                call(tour, value, value)
            for call in (further.further, further.walls, finals.final, finals.reaches, finals.reach_paper):
                refused(call, tour, value)
            firsts.passing_holds(tour, 0, False, value)
            firsts.passing_holds(tour, value, value, value)
            refused(firsts.ranks, tour, value)
            known.is_known(3, value)
            refused(known.known_from, 3, value)
            refused(known.results, 3, (), value)
            settling.table_holds(3, (), 1, value, value)
            refused(settling.least_rounds, 3, value, 1)
            for call in (knockouts.are_beats, knockouts.can_win, knockouts.kings, knockouts.winners_table):
                refused(call, value)
            refused(knockouts.winner, ((1,), ()), value)
            refused(knockouts.draw_for, ((1,), ()), value)
            knockouts.bars_hold(((1,), ()), value, value)
            for call in (claims.is_question, claims.is_claim, claims.answer_of, claims.question_of, papers.paper_of):
                refused(call, tour, value)
            for claim in (value, ("round",), ("meet", 1), ("first", 0, True), ("sure", 0, False), ("further", 1)):
                papers.claim_holds(tour, claim, value)
            for name in ("pair", "enter", "withdraw", "watch", "leave", "claim", "paper"):
                refused(getattr(made, name), value)
            if not isinstance(value, ValueError):
                self.assertEqual(value, before)
        self.assertEqual(tour, tour_of(4))

    def test_a_refused_list_is_left_alone(self):
        value = [(0, 1)]
        with self.assertRaises(errors.InvalidPairs) as caught:
            tour_of(2, barred=value)
        self.assertEqual(value, [(0, 1)])
        value.append(3)
        self.assertIs(caught.exception.value, value)

    def test_later_changes_have_no_effect(self):
        """Nothing that can change is taken, not even deep within."""
        stay = [0, 12]
        for told_stays in ([stay, stay], (stay, stay), (stay, (0, 12))):
            with self.assertRaises(errors.InvalidStays):
                tour_of(2, stays=told_stays)


class FormTest(unittest.TestCase):
    """Some of the rules for the code that are easily broken unseen."""

    def files(self):
        return sorted(FOLDER.rglob("*.py"))

    def test_sizes_and_characters(self):
        for path in self.files():
            text = path.read_text()
            lines = text.split("\n")
            self.assertLess(len(lines), 400, path)
            self.assertLessEqual(max(len(line) for line in lines), 120, path)
            self.assertEqual([c for c in text if not (" " <= c <= "~" or c == "\n")], [], path)
            for node in ast.walk(ast.parse(text)):
                if isinstance(node, ast.FunctionDef):
                    self.assertLessEqual(node.end_lineno - node.lineno + 1, 40, (path, node.name))

    def test_imports(self):
        library = {"heapq", "math", "itertools", "collections"}
        for path in self.files():
            for node in ast.walk(ast.parse(path.read_text())):
                self.assertNotIsInstance(node, ast.Import, path)
                if isinstance(node, ast.ImportFrom):
                    own = node.module.startswith("roundsettle.")
                    self.assertTrue(own or node.module in library, (path, node.module))
                    self.assertEqual([name for name in node.names if name.asname], [], path)

    def test_only_files_of_the_package(self):
        others = [path for path in FOLDER.rglob("*") if path.suffix != ".py" and "__pycache__" not in str(path)]
        self.assertEqual(others, [])

    def test_no_generator_and_no_float(self):
        banned = (ast.GeneratorExp, ast.Yield, ast.Global, ast.AsyncFunctionDef, ast.Div)
        for path in self.files():
            for node in ast.walk(ast.parse(path.read_text())):
                self.assertNotIsInstance(node, banned, path)
                if isinstance(node, ast.Constant):
                    self.assertNotIsInstance(node.value, (float, complex), path)


if __name__ == "__main__":
    unittest.main()
