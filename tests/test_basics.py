"""[2], [4] and the interface: arguments, their names, where things are defined, sizes."""

import ast
import copy
import functools
import inspect
import unittest
from pathlib import Path

import roundsettle
from roundsettle import errors, finals, firsts, further, known, meetings, pairing, settling, tours
from tests.helper import any_values, drawn_tours, slow_open_games, tour_of, tours_with_open

FOLDER = Path(roundsettle.__file__).parent
INTERFACE = {
    tours: {
        "Tour": ["many", "bye", "barred", "stays", "rounds"],
        "points": ["tour"], "weights": ["tour"], "order": ["tour"],
    },
    pairing: {
        "may_meet": ["tour"], "may_rest": ["tour"], "is_full_round": ["tour", "value"],
        "full_round": ["tour"], "bar": ["tour"], "bar_holds": ["tour", "value"],
    },
    further: {
        "further": ["tour", "k"], "walls": ["tour", "k"], "walls_hold": ["tour", "k", "value"],
    },
    meetings: {
        "meeting": ["tour"], "rounds_to_meet": ["tour"], "is_meeting": ["tour", "value"],
        "crowd": ["tour"], "crowd_holds": ["tour", "k", "value"],
    },
    finals: {
        "open_games": ["tour"], "final": ["tour", "outcomes"], "reaches": ["tour", "target"],
        "reach_paper": ["tour", "target"], "reach_holds": ["tour", "target", "value"],
    },
    firsts: {
        "first_outcomes": ["tour", "player", "alone"], "passing": ["tour", "player", "alone"],
        "passing_holds": ["tour", "player", "alone", "value"], "sure_first": ["tour", "player", "alone"],
        "other_outcomes": ["tour", "player", "alone"], "ranks": ["tour", "player"],
    },
    known: {
        "is_known": ["many", "value"], "known_from": ["many", "pairs"], "settled": ["many", "known", "rank"],
        "results": ["many", "known", "bouts"],
    },
    settling: {
        "least_rounds": ["many", "known", "rank"], "best_round": ["many", "known", "rank"],
        "settle_table": ["many", "known", "rank"], "table_holds": ["many", "known", "rank", "number", "value"],
    },
}


def told(call, *args):
    """What a call returns, or the word of its Undefined."""
    try:
        return call(*args)
    except errors.Undefined as error:
        return [error.what]
    except errors.InvalidRound as error:
        return [error.value]


def told_by_name(call, names):
    """The same with the arguments by the names of the parameters, the last one first."""
    return told(functools.partial(call, **dict(reversed(list(names.items())))))


def refused(call, *args):
    """Whether a call raises an error of the package."""
    try:
        call(*args)
    except errors.RoundError:
        return True
    return False


def calls_of(tour):
    """Calls of all functions with this tour, each with its other arguments."""
    found = [(call,) for call in (
        tours.points, tours.weights, tours.order, pairing.may_meet, pairing.may_rest, pairing.full_round,
        pairing.bar, meetings.meeting, meetings.rounds_to_meet, meetings.crowd, finals.open_games,
    )]
    found += [(pairing.is_full_round, ((0, 1),)), (pairing.bar_holds, (0,)), (meetings.is_meeting, (((0, 1),),))]
    found += [(call, k) for call in (further.further, further.walls) for k in range(5)]
    found += [(further.walls_hold, 1, ((((), ()),), ())), (meetings.crowd_holds, 1, (0,))]
    found += [(finals.final, (won,) * len(slow_open_games(tour))) for won in range(3)]
    for goal in range(0, 5):
        target = (goal,) * tour.many
        found += [(finals.reaches, target), (finals.reach_paper, target)]
        found += [(finals.reach_holds, target, (word, (0,))) for word in ("much", "little")]
    for player in range(tour.many):
        found.append((firsts.ranks, player))
        for alone in (False, True):
            found += [(call, player, alone) for call in (
                firsts.first_outcomes, firsts.passing, firsts.sure_first, firsts.other_outcomes)]
            found.append((firsts.passing_holds, player, alone, (0,)))
    return found


def calls_of_orders():
    """Calls of all functions of hidden orders, each with its arguments."""
    found = []
    for many in range(1, 5):
        for told in ((), ((0, 1),), ((0, 1), (2, 3)), ((1, 0), (2, 0), (2, 1))):
            found += [(known.is_known, many, told), (known.known_from, many, told)]
            found += [(known.results, many, told, ((0, 1),)), (known.results, many, told, ((0, 2), (1, 3)))]
            for rank in range(1, many + 1):
                found += [(call, many, told, rank) for call in (
                    known.settled, settling.least_rounds, settling.best_round, settling.settle_table)]
                found += [(settling.table_holds, many, told, rank, number, ((told, 0),)) for number in (0, 1)]
    return [(call, *args) for call, *args in found if call is known.is_known or known.is_known(args[0], args[1])]


class InterfaceTest(unittest.TestCase):
    def test_names_of_parameters(self):
        for module, names in INTERFACE.items():
            for name, parameters in names.items():
                found = list(inspect.signature(getattr(module, name)).parameters)
                self.assertEqual(found, parameters)

    def test_defined_where_they_are_listed(self):
        for module, names in INTERFACE.items():
            tree = ast.parse(Path(module.__file__).read_text())
            found = [node.name for node in tree.body if isinstance(node, (ast.FunctionDef, ast.ClassDef))]
            for name in names:
                self.assertIn(name, found)

    def test_attributes_are_set_when_a_tour_is_made(self):
        self.assertEqual(sorted(vars(tour_of(2))), ["barred", "bye", "many", "rounds", "stays"])


class NothingChangesTest(unittest.TestCase):
    def test_calls_change_no_argument_and_are_repeated_alike(self):
        for tour in drawn_tours(8, 100) + tours_with_open(9, 7, 3):
            twin = copy.deepcopy(tour)
            first = [told(call, tour, *more) for call, *more in calls_of(tour)]
            self.assertEqual([told(call, tour, *more) for call, *more in calls_of(tour)], first)
            self.assertEqual([told(call, twin, *more) for call, *more in calls_of(twin)], first)
            self.assertEqual(vars(tour), vars(twin))
            for call, *more in calls_of(tour):
                names = inspect.signature(call).parameters
                self.assertEqual(told(call, tour, *more), told_by_name(call, dict(zip(names, [tour, *more]))))

    def test_calls_of_orders_are_repeated_alike(self):
        first = [told(call, *args) for call, *args in calls_of_orders()]
        self.assertEqual([told(call, *args) for call, *args in calls_of_orders()], first)
        self.assertEqual([told(call, *copy.deepcopy(args)) for call, *args in calls_of_orders()], first)
        for (call, *args), found in zip(calls_of_orders(), first):
            names = inspect.signature(call).parameters
            self.assertEqual(told_by_name(call, dict(zip(names, args))), found)

    def test_values_that_are_looked_at_do_not_change(self):
        tour = tour_of(4)
        for value in any_values():
            before = copy.deepcopy(value)
            for call in (pairing.is_full_round, pairing.bar_holds, meetings.is_meeting):
                call(tour, value)
            for call in (further.walls_hold, meetings.crowd_holds, finals.reach_holds):
                call(tour, 1, value)
                call(tour, value, value)
            for call in (further.further, further.walls, finals.final, finals.reaches, finals.reach_paper):
                refused(call, tour, value)
            firsts.passing_holds(tour, 0, False, value)
            firsts.passing_holds(tour, value, value, value)
            refused(firsts.ranks, tour, value)
            known.is_known(3, value)
            refused(known.known_from, 3, value)
            refused(known.results, 3, (), value)
            settling.table_holds(3, (), 1, value, value)
            refused(settling.least_rounds, 3, value, 1)
            if not isinstance(value, ValueError):
                self.assertEqual(value, before)
        self.assertEqual(tour, tour_of(4))

    def test_a_refused_list_is_left_alone(self):
        value = [(0, 1)]
        with self.assertRaises(errors.InvalidPairs) as caught:
            tour_of(2, barred=value)
        self.assertEqual(value, [(0, 1)])
        value.append(3)
        self.assertIs(caught.exception.value, value)

    def test_later_changes_have_no_effect(self):
        """Nothing that can change is taken, not even deep within."""
        stay = [0, 12]
        for told_stays in ([stay, stay], (stay, stay), (stay, (0, 12))):
            with self.assertRaises(errors.InvalidStays):
                tour_of(2, stays=told_stays)


class FormTest(unittest.TestCase):
    """Some of the rules for the code that are easily broken unseen."""

    def files(self):
        return sorted(FOLDER.rglob("*.py"))

    def test_sizes_and_characters(self):
        for path in self.files():
            text = path.read_text()
            lines = text.split("\n")
            self.assertLess(len(lines), 400, path)
            self.assertLessEqual(max(len(line) for line in lines), 120, path)
            self.assertEqual([c for c in text if not (" " <= c <= "~" or c == "\n")], [], path)
            for node in ast.walk(ast.parse(text)):
                if isinstance(node, ast.FunctionDef):
                    self.assertLessEqual(node.end_lineno - node.lineno + 1, 40, (path, node.name))

    def test_imports(self):
        library = {"heapq", "math", "itertools", "collections"}
        for path in self.files():
            for node in ast.walk(ast.parse(path.read_text())):
                self.assertNotIsInstance(node, ast.Import, path)
                if isinstance(node, ast.ImportFrom):
                    own = node.module.startswith("roundsettle.")
                    self.assertTrue(own or node.module in library, (path, node.module))
                    self.assertEqual([name for name in node.names if name.asname], [], path)

    def test_only_files_of_the_package(self):
        others = [path for path in FOLDER.rglob("*") if path.suffix != ".py" and "__pycache__" not in str(path)]
        self.assertEqual(others, [])

    def test_no_generator_and_no_float(self):
        banned = (ast.GeneratorExp, ast.Yield, ast.Global, ast.AsyncFunctionDef, ast.Div)
        for path in self.files():
            for node in ast.walk(ast.parse(path.read_text())):
                self.assertNotIsInstance(node, banned, path)
                if isinstance(node, ast.Constant):
                    self.assertNotIsInstance(node.value, (float, complex), path)


if __name__ == "__main__":
    unittest.main()
