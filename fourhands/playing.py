"""Where play stands, which cards may be played there, and what a card makes of it."""

from fourhands.basics import FORBIDDEN, NOBODY, PLAYERS, player_after, side_of, suit_of

NO_SUIT = -1
NO_CARD = -1


class Position:
    """Where play stands: the cards left, who's to play, the tricks of either side, and the trick that's not done.

    Of that trick it keeps how many cards are laid, the suit led, the top card, which has it so far, and its holder.
    A position isn't changed: each card makes another one of it, so that a search can go back to any.
    """

    def __init__(self, trump, hands, turn, taken):
        self.trump = trump
        self.hands = hands
        self.turn = turn
        self.taken = taken
        self.laid = 0
        self.led = NO_SUIT
        self.top = NO_CARD
        self.holder = NOBODY

    def choices(self):
        """List the cards that who's to play may play."""
        hand = self.hands[self.turn]
        following = [card for card in hand if suit_of(card) == self.led]
        if len(following) > 0:
            return following
        return list(hand)

    def after(self, card):
        """Give back the position that card makes of this one."""
        leads = self.laid == 0
        wins = leads or beats(card, self.top, self.trump)
        holder = self.turn if wins else self.holder
        hands = without(self.hands, self.turn, card)
        if self.laid + 1 == PLAYERS:
            return Position(self.trump, hands, holder, one_more(self.taken, holder))
        position = Position(self.trump, hands, player_after(self.turn), self.taken)
        position.laid = self.laid + 1
        position.led = suit_of(card) if leads else self.led
        position.top = card if wins else self.top
        position.holder = holder
        return position

    def is_over(self):
        """Tell whether no cards are left."""
        return len(self.hands[self.turn]) == 0


def start_of_play(trump, leader, hands):
    """Give back the position ahead of the first card."""
    return Position(trump, tuple([tuple(hand) for hand in hands]), leader, (0, 0))


def beats(card, top, trump):
    """Tell whether card takes the trick from top, which has it so far."""
    if suit_of(card) == suit_of(top):
        return card > top
    return suit_of(card) == trump


def without(hands, player, card):
    """Give back hands, card gone from player's."""
    left = list(hands)
    left[player] = tuple([held for held in hands[player] if held != card])
    return tuple(left)


def one_more(taken, player):
    """Give back the tricks of either side, one more for player's."""
    if side_of(player) == 0:
        return (taken[0] + 1, taken[1])
    return (taken[0], taken[1] + 1)


def play_cards(trump, leader, hands, cards):
    """List where play stands behind cards; or what they are refused by."""
    position = start_of_play(trump, leader, hands)
    for number, card in enumerate(cards):
        if card not in position.choices():
            return [FORBIDDEN - number]
        position = position.after(card)
    return standing(position)


def standing(position):
    """List the tricks done, those of either side, who's to play, and the cards in the trick that's not done."""
    taken = position.taken
    turn = NOBODY if position.is_over() else position.turn
    return [taken[0] + taken[1], taken[0], taken[1], turn, position.laid]
