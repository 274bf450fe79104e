"""Papers for claims: made for the true ones, and looked at for any."""

from roundsettle.claims import (
    FIRST, FURTHER, MEET, NO_ROUND, NOT_FURTHER, NOT_REACH, PASSED, REACH, ROUND, SURE, answer_of, read_claim,
)
from roundsettle.finals import are_outcomes, final, reach_holds, reach_paper, reaches
from roundsettle.firsts import first_outcomes, is_first, mosts, other_outcomes, passing, passing_holds, sure_first
from roundsettle.further import are_further, further, walls, walls_hold
from roundsettle.kinds import is_row, is_same
from roundsettle.meetings import crowd, crowd_holds, is_meeting, meeting
from roundsettle.pairing import bar, bar_holds, full_round, is_full_round


def _meeting_paper(tour):
    rounds = meeting(tour)
    if not rounds:
        return ((), ())
    return rounds, crowd(tour)


def _paper_on_players(tour, claim):
    """Some paper for a true claim on one player."""
    word, player, alone = claim
    if word == FIRST:
        return first_outcomes(tour, player, alone)
    if word == PASSED:
        return passing(tour, player, alone)
    if word == SURE:
        return mosts(tour)
    return other_outcomes(tour, player, alone)


def paper_of(tour, question):
    """Some paper for the claim that truly answers the question."""
    claim = answer_of(tour, question)
    word = claim[0]
    if word == ROUND:
        return full_round(tour)
    if word == NO_ROUND:
        return bar(tour)
    if word == FURTHER:
        return further(tour, claim[1])
    if word == NOT_FURTHER:
        return walls(tour, claim[1])
    if word == MEET:
        return _meeting_paper(tour)
    if word == REACH:
        return reaches(tour, claim[1])
    if word == NOT_REACH:
        return reach_paper(tour, claim[1])
    return _paper_on_players(tour, claim)


def _meeting_holds(tour, k, paper):
    """Whether paper, any value, is k meeting rounds and a crowd for k, which is a number."""
    if not is_row(paper, 2) or not is_meeting(tour, paper[0]) or len(paper[0]) != k:
        return False
    if k == 0:
        return is_row(paper[1], 0)
    return crowd_holds(tour, k, paper[1])


def _holds_on_players(tour, claim, paper):
    """Whether paper, any value, is one for a claim on one player."""
    word, player, alone = claim
    if word == PASSED:
        return passing_holds(tour, player, alone, paper)
    if word == SURE:
        return sure_first(tour, player, alone) and is_same(paper, mosts(tour))
    if not are_outcomes(tour, paper):
        return False
    return is_first(final(tour, paper), player, alone) == (word == FIRST)


def claim_holds(tour, claim, paper):
    """Whether claim, any value, is a claim for the tour, and paper, any value, a paper for it."""
    told = read_claim(tour, claim)
    if told is None:
        return False
    word = told[0]
    if word == ROUND:
        return is_full_round(tour, paper)
    if word == NO_ROUND:
        return bar_holds(tour, paper)
    if word == FURTHER:
        return are_further(tour, told[1], paper)
    if word == NOT_FURTHER:
        return walls_hold(tour, told[1], paper)
    if word == MEET:
        return _meeting_holds(tour, told[1], paper)
    if word == REACH:
        return are_outcomes(tour, paper) and final(tour, paper) == told[1]
    if word == NOT_REACH:
        return reach_holds(tour, told[1], paper)
    return _holds_on_players(tour, told, paper)
