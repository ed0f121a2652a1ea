"""What several files say of players, cards, bytes and refusals."""

PLAYERS = 4
NOBODY = 4

RANKS = 13
CARDS = 52

# The strain, and the trump, that is none of the suits.
NO_TRUMP = 4

BLANK = 32

MISPLACED = -100
FORBIDDEN = -1000


def side_of(player):
    """Give back the side of player: 0 of players 0 and 2, 1 of players 1 and 3."""
    return player % 2


def player_after(player):
    """Give back who plays and calls after player."""
    return (player + 1) % PLAYERS


def suit_of(card):
    """Give back the suit of card."""
    return card // RANKS
