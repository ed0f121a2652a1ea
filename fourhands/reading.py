"""Reads a deal from its bytes and says why a text is none."""

from fourhands.basics import BLANK, CARDS, MISPLACED, NOBODY, PLAYERS, RANKS

SPADES = 3
CLUBS = 0

POINT = 46
RANK_OF_LETTER = {
    50: 0, 51: 1, 52: 2, 53: 3, 54: 4, 55: 5, 56: 6, 57: 7,
    84: 8, 74: 9, 81: 10, 75: 11, 65: 12,
}

UNEVEN = -5
SHARED = -6


class Reader:
    """Takes a deal's bytes one by one and keeps the hands told so far."""

    def __init__(self):
        self.hands = [[]]
        self.refusal = 0
        self.open_suit(SPADES)

    def open_suit(self, suit):
        """Begin a suit of the hand that is being read."""
        self.suit = suit
        # Every rank is below this one, so that a suit may begin with any letter.
        self.bound = RANKS

    def take(self, byte):
        """Read byte if it can stand here, and tell whether it can."""
        # What is no letter counts as a rank that no bound lets through.
        rank = RANK_OF_LETTER.get(byte, RANKS)
        if rank < self.bound:
            self.hands[-1].append(RANKS * self.suit + rank)
            self.bound = rank
        elif byte == POINT and self.suit > CLUBS:
            self.open_suit(self.suit - 1)
        elif byte == BLANK and self.suit == CLUBS and len(self.hands) < PLAYERS:
            self.hands.append([])
            self.open_suit(SPADES)
        else:
            return False
        return True

    def may_end(self):
        """Tell whether the text's end can stand here."""
        return self.suit == CLUBS and len(self.hands) == PLAYERS


def read_deal(text):
    """Give back the reader of text; its refusal is 0 if text is a deal."""
    reader = Reader()
    for place, byte in enumerate(text):
        if not reader.take(byte):
            reader.refusal = MISPLACED - place
            return reader
    if reader.may_end():
        reader.refusal = refusal_of_hands(reader.hands)
    else:
        reader.refusal = MISPLACED - len(text)
    return reader


def refusal_of_hands(hands):
    """Give back what four hands are refused by, 0 if by nothing."""
    each = len(hands[0])
    if each == 0 or any([len(hand) != each for hand in hands]):
        return UNEVEN
    if has_shared_card(hands):
        return SHARED
    return 0


def has_shared_card(hands):
    """Tell whether a card is in two hands."""
    seen = {}
    for hand in hands:
        for card in hand:
            if card in seen:
                return True
            seen[card] = True
    return False


def owners_of(hands):
    """List for each card who has it."""
    owners = [NOBODY] * CARDS
    for player, hand in enumerate(hands):
        for card in hand:
            owners[card] = player
    return owners
