"""Reads calls from their bytes, holds them to their rules and tells what is agreed on."""

from fourhands.basics import BLANK, FORBIDDEN, MISPLACED, player_after, side_of

# A bid is its level times STRAINS and its strain, so that a higher bid is a higher number; the other calls lie below.
NO_CALL = -1
PASS = 0
DOUBLE = 1
REDOUBLE = 2
STRAINS = 5

LETTER_P = 80
LETTER_X = 88
LEVEL_OF_DIGIT = {49: 1, 50: 2, 51: 3, 52: 4, 53: 5, 54: 6, 55: 7}
STRAIN_OF_LETTER = {67: 0, 68: 1, 72: 2, 83: 3, 78: 4}
TEXT_END = -1

PASSES_AT_FIRST = 4
PASSES_BEHIND_A_BID = 3

NOT_AT_AN_END = 0
ALL_PASSED = 1
AGREED = 2


class Auction:
    """Keeps what of the calls so far bears on those to come and on their end."""

    def __init__(self, dealer):
        self.caller = dealer
        self.passes = 0
        self.bid = PASS
        self.bidder = dealer
        self.last = PASS
        self.last_caller = dealer
        self.first_bidders = {}

    def is_over(self):
        """Tell whether the calls are at an end."""
        if self.bid == PASS:
            return self.passes == PASSES_AT_FIRST
        return self.passes == PASSES_BEHIND_A_BID

    def may_come(self, call):
        """Tell whether call may come now."""
        if self.is_over():
            return False
        if call == PASS:
            return True
        by_others = side_of(self.last_caller) != side_of(self.caller)
        if call == DOUBLE:
            return by_others and is_bid(self.last)
        if call == REDOUBLE:
            return by_others and self.last == DOUBLE
        return call > self.bid

    def take(self, call):
        """Let call come."""
        if call == PASS:
            self.passes += 1
        else:
            self.passes = 0
            self.last = call
            self.last_caller = self.caller
        if is_bid(call):
            self.bid = call
            self.bidder = self.caller
            self.first_bidders.setdefault((side_of(self.caller), call % STRAINS), self.caller)
        self.caller = player_after(self.caller)

    def outcome(self):
        """List what the calls come to."""
        if not self.is_over():
            return [NOT_AT_AN_END]
        if self.bid == PASS:
            return [ALL_PASSED]
        strain = self.bid % STRAINS
        declarer = self.first_bidders[(side_of(self.bidder), strain)]
        return [AGREED, self.bid // STRAINS, strain, times_doubled(self.last), declarer]


def is_bid(call):
    """Tell whether call is a bid."""
    return call > REDOUBLE


def times_doubled(call):
    """Give back how a bid is doubled when call is the last one but passes."""
    if call == DOUBLE:
        return 1
    if call == REDOUBLE:
        return 2
    return 0


def byte_at(text, place):
    """Give back the byte at place, or TEXT_END behind the last one."""
    if place < len(text):
        return text[place]
    return TEXT_END


def call_at(text, place):
    """Give back the longest call whose bytes begin at place, or NO_CALL."""
    first = byte_at(text, place)
    second = byte_at(text, place + 1)
    if first == LETTER_P:
        return PASS
    if first == LETTER_X:
        return REDOUBLE if second == LETTER_X else DOUBLE
    if first in LEVEL_OF_DIGIT and second in STRAIN_OF_LETTER:
        return LEVEL_OF_DIGIT[first] * STRAINS + STRAIN_OF_LETTER[second]
    return NO_CALL


def length_of(call):
    """Give back how many bytes call has."""
    if call == PASS or call == DOUBLE:
        return 1
    return 2


def misplaced_at(text, place):
    """Give back the place of the byte by which no call begins at place."""
    if byte_at(text, place) in LEVEL_OF_DIGIT:
        return place + 1
    return place


def hear_calls(dealer, text):
    """List what the calls of text come to, dealer's first; or what they are refused by."""
    auction = Auction(dealer)
    number = 0
    place = 0
    more = len(text) > 0
    while more:
        call = call_at(text, place)
        if call == NO_CALL:
            return [MISPLACED - misplaced_at(text, place)]
        if not auction.may_come(call):
            return [FORBIDDEN - number]
        auction.take(call)
        number += 1
        place += length_of(call)
        # Whatever stands behind a call must be a blank, and a blank asks for one more call.
        more = place < len(text)
        if more and text[place] != BLANK:
            return [MISPLACED - place]
        place += 1
    return auction.outcome()
