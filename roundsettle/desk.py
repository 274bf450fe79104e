"""The desk: a tour that is edited by deeds, and questions whose claims and papers are kept."""

from roundsettle.claims import answer_of, is_question, read_question
from roundsettle.errors import (
    InvalidNumber, InvalidPairs, InvalidPlayer, InvalidQuestion, InvalidRound, NothingToUndo, Undefined,
)
from roundsettle.finals import open_games
from roundsettle.firsts import is_player
from roundsettle.kinds import are_apart, are_pairs, is_pair, is_same, is_within
from roundsettle.pairing import may_meet
from roundsettle.papers import claim_holds, paper_of
from roundsettle.tours import MOST_OPEN, MOST_PLAYERS, MOST_ROUNDS, MOST_STAY, OPEN, WIN, Tour, met_pairs

NOTHING = (None, None)


def _with_rounds(tour, rounds):
    return Tour(tour.many, tour.bye, tour.barred, tour.stays, rounds)


def _with_stays(tour, stays):
    return Tour(len(stays), tour.bye, tour.barred, stays, tour.rounds)


def _with_barred(tour, barred):
    return Tour(tour.many, tour.bye, barred, tour.stays, tour.rounds)


def _can_be_next(tour, pairs):
    """Whether pairs, any value, can be the next round, all its games open."""
    if not are_pairs(pairs, tour.many) or not are_apart(pairs):
        return False
    free = may_meet(tour)
    if not all([pair in free for pair in pairs]):
        return False
    return len(tour.rounds) < MOST_ROUNDS and len(open_games(tour)) + len(pairs) <= MOST_OPEN


def _is_game(tour, r, a, b):
    """Whether a and b, any values, are the players of a game of round r, a < b."""
    return is_pair((a, b), tour.many) and (a, b) in [(x, y) for x, y, _ in tour.rounds[r]]


def _can_have(tour, r, a, b, won):
    """Whether a game can have these points, any value, without too many open ones."""
    if not is_within(won, OPEN, WIN):
        return False
    others = [game for game in open_games(tour) if game != (r, a, b)]
    return won != OPEN or len(others) < MOST_OPEN


def _scored(games, a, b, won):
    """The games of a round, that of a and b with these points."""
    return tuple([(x, y, won if (x, y) == (a, b) else old) for x, y, old in games])


def _answered(tour, question):
    """The claim and the paper for a question that comes to be watched."""
    if not is_question(tour, question):
        return NOTHING
    return answer_of(tour, question), paper_of(tour, question)


def _looked_at(tour, question, kept):
    """The claim and the paper for a question that was watched before, and the word that tells what became of them."""
    if not is_question(tour, question):
        return NOTHING, "none"
    claim, paper = kept
    if claim_holds(tour, claim, paper):
        return kept, "kept"
    now = _answered(tour, question)
    if now[0] == claim:
        return now, "renewed"
    return now, "changed"


class Desk:
    """A tour that is edited by deeds, which can be undone, and the questions that are watched."""

    def __init__(self, tour):
        self.tour = tour
        self.watched = ()
        self.many = 0
        # What stood ahead of each deed that can be undone, and behind each one that can be redone.
        self._done = []
        self._undone = []
        self._kept = {}
        self._words = ()

    def pair(self, pairs):
        """Put the pairs as the next round, all games open."""
        if not _can_be_next(self.tour, pairs):
            raise InvalidRound(pairs)
        games = tuple([(a, b, OPEN) for a, b in pairs])
        self._do(_with_rounds(self.tour, self.tour.rounds + (games,)), self.watched)

    def score(self, r, a, b, points):
        """Give these points to a in its game against b in round r."""
        rounds = self.tour.rounds
        if not is_within(r, 0, len(rounds) - 1):
            raise InvalidNumber(r)
        if not _is_game(self.tour, r, a, b):
            raise InvalidPairs((a, b))
        if not _can_have(self.tour, r, a, b, points):
            raise InvalidNumber(points)
        games = _scored(rounds[r], a, b, points)
        self._do(_with_rounds(self.tour, rounds[:r] + (games,) + rounds[r + 1:]), self.watched)

    def cancel(self):
        """Take out the last round."""
        if not self.tour.rounds:
            raise Undefined("rounds")
        self._do(_with_rounds(self.tour, self.tour.rounds[:-1]), self.watched)

    def enter(self, last):
        """Let one player more come, for the next round until the one ahead of last."""
        if self.tour.many == MOST_PLAYERS:
            raise Undefined("room")
        now = len(self.tour.rounds)
        if not is_within(last, now, MOST_STAY):
            raise InvalidNumber(last)
        self._do(_with_stays(self.tour, self.tour.stays + ((now, last),)), self.watched)

    def withdraw(self, player):
        """Let the player be there in no round behind those that are there."""
        if not is_player(self.tour, player):
            raise InvalidPlayer(player)
        now = len(self.tour.rounds)
        stays = list(self.tour.stays)
        first, last = stays[player]
        stays[player] = (min(first, now), min(last, now))
        self._do(_with_stays(self.tour, tuple(stays)), self.watched)

    def part(self, a, b):
        """Bar the pair."""
        tour = self.tour
        if not is_pair((a, b), tour.many) or (a, b) in tour.barred or (a, b) in met_pairs(tour):
            raise InvalidPairs((a, b))
        self._do(_with_barred(tour, tuple(sorted(list(tour.barred) + [(a, b)]))), self.watched)

    def admit(self, a, b):
        """Let the barred pair meet."""
        tour = self.tour
        if not is_pair((a, b), tour.many) or (a, b) not in tour.barred:
            raise InvalidPairs((a, b))
        self._do(_with_barred(tour, tuple([pair for pair in tour.barred if pair != (a, b)])), self.watched)

    def watch(self, question):
        """Watch the question from now on, behind the others, if it is not watched already."""
        asked = read_question(self.tour, question)
        if asked is None:
            raise InvalidQuestion(question)
        if asked in self.watched:
            self._do(self.tour, self.watched)
        else:
            self._do(self.tour, self.watched + (asked,))

    def leave(self, question):
        """Watch the question, any value, no longer."""
        left = self._find(question)
        self._do(self.tour, tuple([one for one in self.watched if one != left]))

    def undo(self):
        """Take back the last deed that is not undone."""
        if not self._done:
            raise NothingToUndo("undo")
        tour, watched = self._done[-1]
        self._take(tour, watched, self._done[:-1], self._undone + [(self.tour, self.watched)])

    def redo(self):
        """Do the last undone deed again."""
        if not self._undone:
            raise NothingToUndo("redo")
        tour, watched = self._undone[-1]
        self._take(tour, watched, self._done + [(self.tour, self.watched)], self._undone[:-1])

    def claim(self, question):
        """The claim that is kept for a watched question; None if it is no question for the tour."""
        return self._kept[self._find(question)][0]

    def paper(self, question):
        """The paper that is kept for a watched question; None if it is no question for the tour."""
        return self._kept[self._find(question)][1]

    def report(self):
        """For each watched question the word for what the last deed made of it."""
        return self._words

    def _find(self, question):
        """The watched question that question, any value, is."""
        found = [one for one in self.watched if is_same(question, one)]
        if not found:
            raise Undefined("watched")
        return found[0]

    def _do(self, tour, watched):
        """Do a deed other than undo and redo that leads to this tour and these watched questions."""
        self._take(tour, watched, self._done + [(self.tour, self.watched)], [])

    def _take(self, tour, watched, done, undone):
        """Take up a tour and watched questions, and look at each of these."""
        kept = {}
        words = []
        for question in watched:
            if question in self._kept:
                kept[question], word = _looked_at(tour, question, self._kept[question])
            else:
                kept[question], word = _answered(tour, question), "new"
            words.append(word)
        self.tour = tour
        self.watched = watched
        self.many = len(done)
        self._done = done
        self._undone = undone
        self._kept = kept
        self._words = tuple(words)


def _state(desk):
    """What of a desk is asked for where two are compared, but for the tour."""
    kept = [(desk.claim(question), desk.paper(question)) for question in desk.watched]
    return desk.watched, kept, desk.many, len(desk._undone)


def same_state(one, other):
    """Whether two desks have equal tours, watched questions, claims, papers and numbers of deeds."""
    return one.tour == other.tour and _state(one) == _state(other)
