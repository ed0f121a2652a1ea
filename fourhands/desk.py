"""The calls that can be asked; each answers a list of whole numbers."""

from fourhands.basics import PLAYERS
from fourhands.bidding import hear_calls
from fourhands.reading import owners_of, read_deal

LONGEST_TEXT = 300
OUT_OF_RANGE = -2


def deal(text):
    """Answer how many cards each has, then for each card who has it; or a refusal."""
    if len(text) > LONGEST_TEXT:
        return [OUT_OF_RANGE]
    reader = read_deal(text)
    if reader.refusal < 0:
        return [reader.refusal]
    return [len(reader.hands[0])] + owners_of(reader.hands)


def calls(dealer, text):
    """Answer whether the calls are at an end and what they agree on; or a refusal."""
    if len(text) > LONGEST_TEXT or not 0 <= dealer < PLAYERS:
        return [OUT_OF_RANGE]
    return hear_calls(dealer, text)
