"""The calls that can be asked; each answers a list of whole numbers."""

from fourhands.basics import CARDS, NO_TRUMP, PLAYERS
from fourhands.bidding import hear_calls
from fourhands.playing import play_cards
from fourhands.reading import owners_of, read_deal
from fourhands.scoring import points_of
from fourhands.search import all_worths, best_play

LONGEST_TEXT = 300
MOST_CARDS_SEARCHED = 8
OUT_OF_RANGE = -2
TOO_MANY_CARDS = -7
# Numbers below 0 are points too, so the refusal of points lies below all that can be reckoned.
NO_POINTS = -1000000


def deal(text):
    """Answer how many cards each has, then for each card who has it; or a refusal."""
    if len(text) > LONGEST_TEXT:
        return [OUT_OF_RANGE]
    reader = read_deal(text)
    if reader.refusal < 0:
        return [reader.refusal]
    return [len(reader.hands[0])] + owners_of(reader.hands)


def calls(dealer, text):
    """Answer whether the calls are at an end and what they agree on; or a refusal."""
    if len(text) > LONGEST_TEXT or not 0 <= dealer < PLAYERS:
        return [OUT_OF_RANGE]
    return hear_calls(dealer, text)


def points(level, strain, doubled, vulnerable, tricks):
    """Answer what the declarer's side gets, below 0 what the others get; or the refusal."""
    if not (1 <= level <= 7 and 0 <= strain <= 4 and 0 <= doubled <= 2 and 0 <= vulnerable <= 1 and 0 <= tricks <= 13):
        return [NO_POINTS]
    return [points_of(level, strain, doubled, vulnerable, tricks)]


def play(trump, leader, text, cards):
    """Answer how many tricks are done, those of either side, who's to play and what lies there; or a refusal."""
    if len(text) > LONGEST_TEXT or len(cards) > CARDS or not may_lead(trump, leader):
        return [OUT_OF_RANGE]
    reader = read_deal(text)
    if reader.refusal < 0:
        return [reader.refusal]
    return play_cards(trump, leader, reader.hands, cards)


def best(trump, leader, text):
    """Answer the worth of leader's side, then the cards of best play; or a refusal."""
    if len(text) > LONGEST_TEXT or not may_lead(trump, leader):
        return [OUT_OF_RANGE]
    reader = read_deal(text)
    refusal = refusal_to_search(reader)
    if refusal < 0:
        return [refusal]
    return best_play(trump, leader, reader.hands)


def table(text):
    """Answer 0, then for each trump and in it each leader the worth of leader's side; or a refusal."""
    if len(text) > LONGEST_TEXT:
        return [OUT_OF_RANGE]
    reader = read_deal(text)
    refusal = refusal_to_search(reader)
    if refusal < 0:
        return [refusal]
    return [0] + all_worths(reader.hands)


def may_lead(trump, leader):
    """Tell whether trump and leader are as said."""
    return 0 <= trump <= NO_TRUMP and 0 <= leader < PLAYERS


def refusal_to_search(reader):
    """Give back what the search for best play of reader's deal is refused by, 0 if by nothing."""
    if reader.refusal < 0:
        return reader.refusal
    if len(reader.hands[0]) > MOST_CARDS_SEARCHED:
        return TOO_MANY_CARDS
    return 0
