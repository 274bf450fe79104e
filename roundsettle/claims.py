"""Questions of a tour, the claims that may answer them, and the one of these that is true."""

from roundsettle.errors import InvalidClaim, InvalidQuestion
from roundsettle.finals import is_reached, is_target
from roundsettle.firsts import can_be_first, is_player, sure_first
from roundsettle.further import MOST_FURTHER, has_further
from roundsettle.kinds import is_integer, is_within, plain
from roundsettle.meetings import rounds_to_meet
from roundsettle.pairing import has_full_round

ROUND = "round"
NO_ROUND = "no round"
FURTHER = "further"
NOT_FURTHER = "not further"
MEET = "meet"
REACH = "reach"
NOT_REACH = "not reach"
FIRST = "first"
PASSED = "passed"
SURE = "sure"

QUESTIONS = ("round", "further", "meet", "reach", "first", "sure")
# The word of each claim beside that of the question that it may answer.
CLAIMS = (
    ("round", "round"), ("no round", "round"), ("further", "further"), ("not further", "further"), ("meet", "meet"),
    ("reach", "reach"), ("not reach", "reach"), ("first", "first"), ("passed", "first"), ("sure", "sure"),
    ("open", "sure"),
)


def _word_of(value, words):
    """The one of the words with which value, any value, begins; None if there is none."""
    if not isinstance(value, tuple) or len(value) == 0 or not isinstance(value[0], str):
        return None
    found = [word for word in words if word == value[0]]
    if not found:
        return None
    return found[0]


def _are_parts(tour, word, parts):
    """Whether the parts, any values, are what stands behind the word of a question."""
    if word == FURTHER:
        return len(parts) == 1 and is_within(parts[0], 0, MOST_FURTHER)
    if word == REACH:
        return len(parts) == 1 and is_target(tour, parts[0])
    if word in (FIRST, SURE):
        return len(parts) == 2 and is_player(tour, parts[0]) and isinstance(parts[1], bool)
    return len(parts) == 0


def read_question(tour, value):
    """The question for the tour that value, any value, is, in Python's own classes; None if it is none."""
    word = _word_of(value, QUESTIONS)
    if word is None or not _are_parts(tour, word, value[1:]):
        return None
    return (word,) + plain(value[1:])


def _asked(word):
    """The word of the question that a claim with this word may answer."""
    return [asked for told, asked in CLAIMS if told == word][0]


def read_claim(tour, value):
    """The claim for the tour that value, any value, is, in Python's own classes; None if it is none."""
    word = _word_of(value, [told for told, _ in CLAIMS])
    if word is None:
        return None
    parts = value[1:]
    if word == MEET:
        good = len(parts) == 1 and is_integer(parts[0]) and parts[0] >= 0
    else:
        good = _are_parts(tour, _asked(word), parts)
    if not good:
        return None
    return (word,) + plain(parts)


def is_question(tour, value):
    """Whether value, any value, is a question for the tour."""
    return read_question(tour, value) is not None


def is_claim(tour, value):
    """Whether value, any value, is a claim for the tour."""
    return read_claim(tour, value) is not None


def _is_so(tour, asked):
    """Whether what a question other than that of meeting rounds asks for is so."""
    word = asked[0]
    if word == ROUND:
        return has_full_round(tour)
    if word == FURTHER:
        return has_further(tour, asked[1])
    if word == REACH:
        return is_reached(tour, asked[1])
    if word == FIRST:
        return can_be_first(tour, asked[1], asked[2])
    return sure_first(tour, asked[1], asked[2])


def answer_of(tour, question):
    """The true one of the claims that may answer the question."""
    asked = read_question(tour, question)
    if asked is None:
        raise InvalidQuestion(question)
    if asked[0] == MEET:
        return (MEET, rounds_to_meet(tour))
    # A claim that what is asked for is so has the words of the question.
    if _is_so(tour, asked):
        return asked
    denial = [told for told, word in CLAIMS if word == asked[0] and told != word][0]
    return (denial,) + asked[1:]


def question_of(tour, claim):
    """The question that the claim may answer."""
    told = read_claim(tour, claim)
    if told is None:
        raise InvalidClaim(claim)
    if told[0] == MEET:
        return (MEET,)
    return (_asked(told[0]),) + told[1:]
