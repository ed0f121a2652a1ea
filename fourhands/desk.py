"""The calls that can be asked; each answers a list of whole numbers."""

from fourhands.reading import owners_of, read_deal

LONGEST_TEXT = 300
OUT_OF_RANGE = -2


def deal(text):
    """Answer how many cards each has, then for each card who has it; or a refusal."""
    if len(text) > LONGEST_TEXT:
        return [OUT_OF_RANGE]
    reader = read_deal(text)
    if reader.refusal < 0:
        return [reader.refusal]
    return [len(reader.hands[0])] + owners_of(reader.hands)
