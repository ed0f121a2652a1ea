"""Promise 1, deal, and what the document says ahead of it."""

import functools
import re
import unittest

from fourhands.desk import deal
from helper import DEAL_ERRORS, Manners, bytes_of

EXAMPLE = "A.K.. .A.2. 2..A. ..K.A"
ONE_EACH = "A... .A.. ..A. ...A"
ONE_SUIT_EACH = "AKQJT98765432... .AKQJT98765432.. ..AKQJT98765432. ...AKQJT98765432"
MIXED = "AQT8.K975.J64.32 K97.AJ86.Q82.KT4 J65.QT3.AK75.A97 432.42.T93.QJ865"

LETTERS = "23456789TJQKA"
NO_CARDS = "... ... ... ..."

SUIT = "A?K?Q?J?T?9?8?7?6?5?4?3?2?"
HAND = SUIT + (r"\." + SUIT) * 3
DEAL = re.compile(HAND + (" " + HAND) * 3)


def ask(text):
    return deal(bytes_of(text))


@functools.lru_cache(maxsize=None)
def can_be_gone_on_with(text):
    """Whether some deal's text, its cards not looked at, begins with text."""
    for points in range(4):
        for hands in range(4):
            if DEAL.fullmatch(text + "." * points + " ..." * hands):
                return True
    return False


def expected(text):
    """What the document asks of a text, told by patterns in place of a walk."""
    for place in range(len(text)):
        if not can_be_gone_on_with(text[:place + 1]):
            return [-100 - place]
    if not DEAL.fullmatch(text):
        return [-100 - len(text)]
    held = []
    for hand in text.split(" "):
        suits = reversed(hand.split("."))
        held.append([13 * suit + LETTERS.index(letter)
                     for suit, letters in enumerate(suits) for letter in letters])
    counts = {len(hand) for hand in held}
    if counts == {0} or len(counts) > 1:
        return [-5]
    if len({card for hand in held for card in hand}) < 4 * len(held[0]):
        return [-6]
    owner = {card: player for player, hand in enumerate(held) for card in hand}
    return [len(held[0])] + [owner.get(card, 4) for card in range(52)]


class OrdinaryDeals(unittest.TestCase):
    def test_example_of_the_document(self):
        held = {51: 0, 37: 0, 38: 1, 13: 1, 39: 2, 25: 2, 24: 3, 12: 3}
        self.assertEqual(ask(EXAMPLE), [2] + [held.get(card, 4) for card in range(52)])

    def test_one_card_each(self):
        held = {51: 0, 38: 1, 25: 2, 12: 3}
        self.assertEqual(ask(ONE_EACH), [1] + [held.get(card, 4) for card in range(52)])

    def test_one_card_each_lowest(self):
        held = {0: 0, 13: 1, 26: 2, 39: 3}
        self.assertEqual(ask("...2 ..2. .2.. 2..."), [1] + [held.get(card, 4) for card in range(52)])

    def test_thirteen_cards_of_one_suit_each(self):
        self.assertEqual(ask(ONE_SUIT_EACH), [13] + [3] * 13 + [2] * 13 + [1] * 13 + [0] * 13)

    def test_thirteen_cards_mixed(self):
        clubs = [0, 0, 1, 3, 3, 2, 3, 2, 1, 3, 3, 1, 2]
        diamonds = [1, 3, 0, 2, 0, 2, 1, 3, 3, 0, 1, 2, 2]
        hearts = [3, 2, 3, 0, 1, 0, 1, 0, 2, 1, 2, 0, 1]
        spades = [3, 3, 3, 2, 2, 1, 0, 1, 0, 2, 0, 1, 0]
        self.assertEqual(ask(MIXED), [13] + clubs + diamonds + hearts + spades)

    def test_each_letter_in_each_suit(self):
        for suit in range(4):
            for rank, letter in enumerate(LETTERS):
                others = [card for card in (0, 1, 2, 3) if card != 13 * suit + rank][:3]
                hands = ["." * (3 - suit) + letter + "." * suit] + ["..." + LETTERS[card] for card in others]
                owners = [4] * 52
                owners[13 * suit + rank] = 0
                for player, card in enumerate(others):
                    owners[card] = player + 1
                with self.subTest(suit=suit, letter=letter):
                    self.assertEqual(ask(" ".join(hands)), [1] + owners)

    def test_each_number_of_cards(self):
        for count in range(1, 14):
            letters = LETTERS[::-1][:count]
            text = f"{letters}... .{letters}.. ..{letters}. ...{letters}"
            owners = []
            for player in (3, 2, 1, 0):
                owners += [4] * (13 - count) + [player] * count
            with self.subTest(count=count):
                self.assertEqual(ask(text), [count] + owners)


class MisplacedBytes(unittest.TestCase):
    def refused(self, text, place):
        with self.subTest(text=text):
            self.assertEqual(ask(text), [-100 - place])

    def test_empty_text(self):
        self.assertEqual(deal([]), [-100])

    def test_end_within_each_part(self):
        for text in (EXAMPLE, ONE_EACH, ONE_SUIT_EACH, MIXED):
            last_point = text.rindex(".")
            for length in range(last_point + 1):
                self.refused(text[:length], length)

    def test_end_can_stand_behind_the_last_point(self):
        self.assertEqual(ask("A... .A.. ..A. ..."), [-5])
        self.assertEqual(ask("A... .A.. ..A. A..."), [-6])

    def test_no_letter_point_or_blank(self):
        for byte in (0, 1, 9, 10, 13, 33, 44, 45, 47, 48, 49, 58, 66, 97, 107, 113, 106, 116, 127, 160, 178, 255):
            for place in range(len(EXAMPLE) + 1):
                self.refused(EXAMPLE[:place] + chr(byte) + EXAMPLE[place:], place)

    def test_same_letter_twice_in_a_suit(self):
        for letter in LETTERS:
            for points in range(4):
                self.refused("." * points + letter + letter, points + 1)

    def test_higher_letter_behind_a_lower_one(self):
        for rank, letter in enumerate(LETTERS):
            for higher in LETTERS[rank + 1:]:
                self.refused(letter + higher, 1)
                self.refused("A..." + letter + higher, 5)

    def test_letter_is_held_to_the_one_just_before_it(self):
        self.refused("AKT.J.2.3 K9Q", 12)
        self.refused("A2K... ... ... ...", 2)

    def test_suit_and_hand_begin_with_any_letter(self):
        self.refused("2.A.2.A A.2.A.2 2.A.2.A A.2.A.2 ", 31)

    def test_fourth_point_in_a_hand(self):
        self.refused("....", 3)
        self.refused("A.K..2. ", 6)
        self.refused("A... .A... ..A. ...A", 9)
        self.refused("A... .A.. ..A. ...A.", 19)

    def test_blank_ahead_of_the_third_point(self):
        self.refused(" ", 0)
        self.refused("A ", 1)
        self.refused(". ... ... ...", 1)
        self.refused("A.. .A.. ..A. ...A", 3)
        self.refused("A... .A. ..A. ...A", 8)
        self.refused("A...  .A.. ..A. ...A", 5)
        self.refused(" " + EXAMPLE, 0)

    def test_blank_behind_the_fourth_hand(self):
        self.refused(EXAMPLE + " ", len(EXAMPLE))
        self.refused(NO_CARDS + " ", 15)
        self.refused(EXAMPLE + " A...", len(EXAMPLE))
        self.refused(EXAMPLE + "\n", len(EXAMPLE))

    def test_first_misplaced_byte_is_told(self):
        self.refused("A.K.. .AA.22. ?", 8)
        self.refused("?" + EXAMPLE + "?", 0)

    def test_misplaced_byte_goes_ahead_of_the_cards(self):
        self.refused("A... A... A... A...x", 19)
        self.refused("AK... A... ... ...2 ", 19)

    def test_longest_texts(self):
        self.refused("." * 300, 3)
        self.refused(" " * 300, 0)
        self.refused((EXAMPLE + " ") * 12 + "." * 12, len(EXAMPLE))
        self.refused(ONE_SUIT_EACH + "." * (300 - len(ONE_SUIT_EACH)), len(ONE_SUIT_EACH))
        all_cards = " ".join([".".join([LETTERS[::-1]] * 4)] * 4)
        self.refused(all_cards + "2" * (300 - len(all_cards)), 223)

    def test_text_of_more_than_300_bytes(self):
        self.assertEqual(ask("." * 301), [-2])
        self.assertEqual(ask(EXAMPLE + " " * 300), [-2])


class WrongHands(unittest.TestCase):
    def refused(self, text, number):
        with self.subTest(text=text):
            self.assertEqual(ask(text), [number])

    def test_hands_without_cards(self):
        self.refused(NO_CARDS, -5)

    def test_one_hand_has_another_number_of_cards(self):
        hands = ["AK...", ".AK..", "..AK.", "...AK"]
        for player, hand in enumerate(hands):
            for other in (hand.replace("AK", "AKQ"), hand.replace("AK", "A"), "..."):
                self.refused(" ".join(hands[:player] + [other] + hands[player + 1:]), -5)

    def test_as_many_cards_of_a_side_alone(self):
        self.refused("AK... .A.. ..AK. ...A", -5)
        self.refused("AK... .AK.. ..A. ...A", -5)

    def test_card_in_each_two_hands(self):
        for first in range(4):
            for second in range(first + 1, 4):
                hands = ["AK...", ".AK..", "..AK.", "...AK"]
                hands[first] = "Q2..."
                hands[second] = "J2..."
                self.refused(" ".join(hands), -6)

    def test_card_in_all_hands(self):
        self.refused("A... A... A... A...", -6)
        self.refused("...2 ...2 ...2 ...2", -6)

    def test_same_rank_in_other_suits_is_no_shared_card(self):
        self.assertEqual(len(ask("2... .2.. ..2. ...2")), 53)

    def test_uneven_goes_ahead_of_shared(self):
        self.refused("AK... A... .A.. ..A.", -5)
        self.refused("A... A... A... ...", -5)
        self.refused("A... .A.. AK... ...A", -5)

    def test_as_many_cards_but_more_than_thirteen(self):
        self.refused(" ".join(["AKQJT98765432.A.."] * 4), -6)
        self.refused(" ".join([".".join([LETTERS[::-1]] * 4)] * 4), -6)


class EachError(unittest.TestCase):
    def test_each(self):
        for text, number in DEAL_ERRORS:
            with self.subTest(text=text):
                self.assertEqual(ask(text), [number])
                self.assertEqual(expected(text), [number])


class EveryChangeOfADeal(unittest.TestCase):
    def check(self, text):
        if ask(text) != expected(text):
            self.fail(f"{text!r}: {ask(text)} in place of {expected(text)}")

    def test_every_byte_in_every_place(self):
        for text in (EXAMPLE, ONE_EACH, NO_CARDS):
            for place in range(len(text) + 1):
                for byte in range(256):
                    self.check(text[:place] + chr(byte) + text[place:])
                    self.check(text[:place] + chr(byte) + text[place + 1:])

    def test_every_sign_in_every_place_of_thirteen_cards_each(self):
        for text in (ONE_SUIT_EACH, MIXED):
            for place in range(len(text) + 1):
                self.check(text[:place] + text[place + 1:])
                for sign in LETTERS + ". x":
                    self.check(text[:place] + sign + text[place:])
                    self.check(text[:place] + sign + text[place + 1:])

    def test_every_two_signs_changed_over(self):
        for text in (EXAMPLE, MIXED):
            for first in range(len(text)):
                for second in range(first):
                    signs = list(text)
                    signs[first], signs[second] = signs[second], signs[first]
                    self.check("".join(signs))


class WhatIsHandedInAndBack(Manners, unittest.TestCase):
    function = staticmethod(deal)
    granted = ((EXAMPLE,), (ONE_EACH,), (ONE_SUIT_EACH,), (MIXED,))
    refused = (("",), ("A.K",), (NO_CARDS,), ("A... A... A... A...",), ("." * 300,))

    def test_deal_is_a_list_of_53_numbers(self):
        for arguments in self.granted:
            self.assertEqual(len(self.ask(arguments)), 53)


if __name__ == "__main__":
    unittest.main()
