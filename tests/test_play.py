"""Promise 4, play, and what the document says ahead of it."""

import itertools
import random
import unittest

from fourhands.desk import play
from helper import DEAL_ERRORS, HIGHEST, LOWEST, Manners, bytes_of, hands_of, random_deal, taker

EXAMPLE = "A.K.. .A.2. 2..A. ..K.A"
ONE_EACH = "A... .A.. ..A. ...A"
ONE_SUIT_EACH = "AKQJT98765432... .AKQJT98765432.. ..AKQJT98765432. ...AKQJT98765432"
MIXED = "AQT8.K975.J64.32 K97.AJ86.Q82.KT4 J65.QT3.AK75.A97 432.42.T93.QJ865"
# Spades: north A 2, east K 3, south Q 4, west J; hearts: west A.
SPADES_AND_A_HEART = "A2... K3... Q4... J.A.."


def card(name):
    """The number of a card by its letters, the suit first: CT is the ten of clubs."""
    return 13 * "CDHS".index(name[0]) + "23456789TJQKA".index(name[1])


def cards(names):
    return [card(name) for name in names.split()]


def stands(trump, leader, played):
    """Who leads and the tricks of either side behind the tricks that are done."""
    sides = [0, 0]
    for start in range(0, len(played) // 4 * 4, 4):
        leader = taker(trump, leader, played[start:start + 4])
        sides[leader % 2] += 1
    return leader, sides


def allowed(trump, leader, hands, played):
    """The cards that may come behind played."""
    leader, _ = stands(trump, leader, played)
    trick = played[len(played) // 4 * 4:]
    turn = (leader + len(trick)) % 4
    left = [number for number in hands[turn] if number not in played]
    if trick and any(number // 13 == trick[0] // 13 for number in left):
        return [number for number in left if number // 13 == trick[0] // 13]
    return left


def expected(trump, leader, text, played):
    """What the document asks of a deal without an error, told anew for each card from the first one on."""
    hands = hands_of(text)
    for number, one in enumerate(played):
        if one not in allowed(trump, leader, hands, played[:number]):
            return [-1000 - number]
    last_leader, sides = stands(trump, leader, played)
    turn = 4 if len(played) == 4 * len(hands[0]) else (last_leader + len(played)) % 4
    return [len(played) // 4, sides[0], sides[1], turn, len(played) % 4]


def line_of_play(chance, trump, leader, hands):
    """All cards of hands, one behind the other, as they may be played."""
    played = []
    while len(played) < 4 * len(hands[0]):
        played.append(chance.choice(allowed(trump, leader, hands, played)))
    return played


class Case(unittest.TestCase):
    def told(self, trump, leader, text, played, answer):
        with self.subTest(trump=trump, leader=leader, text=text, played=played):
            given = cards(played) if isinstance(played, str) else played
            self.assertEqual(play(trump, leader, bytes_of(text), given), answer)

    def check(self, trump, leader, text, played):
        answer = play(trump, leader, bytes_of(text), list(played))
        wanted = expected(trump, leader, text, played)
        if answer != wanted:
            self.fail(f"trump {trump}, leader {leader}, {text!r}, {played}: {answer} in place of {wanted}")


class OrdinaryPlay(Case):
    def test_no_card(self):
        for text in (ONE_EACH, EXAMPLE, MIXED, ONE_SUIT_EACH):
            for trump in range(5):
                for leader in range(4):
                    self.told(trump, leader, text, [], [0, 0, 0, leader, 0])

    def test_some_cards_of_a_trick(self):
        self.told(4, 0, EXAMPLE, "SA", [0, 0, 0, 1, 1])
        self.told(4, 0, EXAMPLE, "SA HA", [0, 0, 0, 2, 2])
        self.told(4, 0, EXAMPLE, "SA HA S2", [0, 0, 0, 3, 3])
        self.told(4, 3, EXAMPLE, "CA HK", [0, 0, 0, 1, 2])

    def test_just_a_trick(self):
        self.told(4, 0, EXAMPLE, "SA HA S2 CA", [1, 1, 0, 0, 0])
        self.told(4, 0, EXAMPLE, "HK HA DA CA", [1, 0, 1, 1, 0])
        self.told(4, 1, EXAMPLE, "D2 DA DK HK", [1, 1, 0, 2, 0])
        self.told(4, 3, EXAMPLE, "CA HK HA DA", [1, 0, 1, 3, 0])

    def test_all_cards_of_two(self):
        self.told(4, 0, EXAMPLE, "SA HA S2 CA HK D2 DA DK", [2, 2, 0, 4, 0])
        self.told(4, 0, EXAMPLE, "HK HA DA CA D2 S2 DK SA", [2, 0, 2, 4, 0])
        self.told(4, 1, EXAMPLE, "D2 DA DK HK S2 CA SA HA", [2, 2, 0, 4, 0])

    def test_all_cards_of_one_each(self):
        for leader in range(4):
            played = [[51, 38, 25, 12][(leader + place) % 4] for place in range(4)]
            sides = [1, 0] if leader % 2 == 0 else [0, 1]
            self.told(4, leader, ONE_EACH, played, [1] + sides + [4, 0])
            for trump, winner in ((3, 0), (2, 1), (1, 2), (0, 3)):
                sides = [1, 0] if winner % 2 == 0 else [0, 1]
                self.told(trump, leader, ONE_EACH, played, [1] + sides + [4, 0])

    def test_all_cards_of_thirteen(self):
        played = []
        for rank in range(13):
            played += [39 + rank, 26 + rank, 13 + rank, rank]
        self.told(4, 0, ONE_SUIT_EACH, played, [13, 13, 0, 4, 0])
        self.told(3, 0, ONE_SUIT_EACH, played, [13, 13, 0, 4, 0])
        self.told(4, 0, ONE_SUIT_EACH, played[:51], [12, 12, 0, 3, 3])
        self.told(4, 0, ONE_SUIT_EACH, played[:48], [12, 12, 0, 0, 0])
        self.told(2, 0, ONE_SUIT_EACH, played[:4], [1, 0, 1, 1, 0])

    def test_several_tricks(self):
        self.told(4, 0, MIXED, "SA S7 S5 S2", [1, 1, 0, 0, 0])
        self.told(4, 0, MIXED, "SA S7 S5 S2 SQ SK S6 S3", [2, 1, 1, 1, 0])
        self.told(4, 0, MIXED, "SA S7 S5 S2 SQ SK S6 S3 CK CA C5 C2", [3, 2, 1, 2, 0])
        self.told(4, 0, MIXED, "SA S7 S5 S2 SQ SK S6 S3 CK CA C5 C2 HQ H2", [3, 2, 1, 0, 2])


class WhoHasTheTrick(Case):
    def test_highest_of_the_suit_led(self):
        self.told(4, 0, SPADES_AND_A_HEART, "S2 S3 S4 SJ", [1, 0, 1, 3, 0])
        self.told(4, 0, SPADES_AND_A_HEART, "S2 SK S4 SJ", [1, 0, 1, 1, 0])
        self.told(4, 0, SPADES_AND_A_HEART, "S2 SK SQ SJ", [1, 0, 1, 1, 0])
        self.told(4, 0, SPADES_AND_A_HEART, "SA SK SQ SJ", [1, 1, 0, 0, 0])
        self.told(4, 0, SPADES_AND_A_HEART, "S2 S3 SQ SJ", [1, 1, 0, 2, 0])

    def test_card_of_another_suit_takes_nothing(self):
        # Spades have higher numbers than the clubs that are led.
        self.told(4, 0, "...2 A... K... Q...", "C2 SA SK SQ", [1, 1, 0, 4, 0])
        self.told(1, 2, "A... K... ...2 Q...", "C2 SQ SA SK", [1, 1, 0, 4, 0])
        self.told(2, 1, "A... ...2 ..A. Q...", "C2 DA SQ SA", [1, 0, 1, 4, 0])

    def test_trump_takes(self):
        self.told(0, 0, "A... K... Q... ...2", "SA SK SQ C2", [1, 0, 1, 4, 0])
        self.told(0, 0, "A... ...2 Q... K...", "SA C2 SQ SK", [1, 0, 1, 4, 0])
        self.told(0, 1, "...2 K... Q... A...", "SK SQ SA C2", [1, 1, 0, 4, 0])
        self.told(2, 3, "A... .2.. Q... K...", "SK SA H2 SQ", [1, 0, 1, 4, 0])

    def test_higher_trump_behind_a_trump(self):
        self.told(0, 0, "A... ...2 ...3 K...", "SA C2 C3 SK", [1, 1, 0, 4, 0])
        self.told(0, 0, "A... ...3 ...2 K...", "SA C3 C2 SK", [1, 0, 1, 4, 0])
        self.told(0, 0, "A... ...3 ...2 ...4", "SA C3 C2 C4", [1, 0, 1, 4, 0])
        self.told(0, 0, "A... ...2 ...4 ...3", "SA C2 C4 C3", [1, 1, 0, 4, 0])

    def test_trump_is_led(self):
        self.told(0, 0, "...2 A... ...3 ..A.", "C2 SA C3 DA", [1, 1, 0, 4, 0])
        self.told(0, 1, "..A. ...2 A... .A..", "C2 SA HA DA", [1, 0, 1, 4, 0])

    def test_each_trump_on_the_same_cards(self):
        for leader in range(4):
            played = [[39, 26, 13, 0][(leader + place) % 4] for place in range(4)]
            for trump in range(5):
                self.check(trump, leader, "2... .2.. ..2. ...2", played)


class CardsThatMayNotBe(Case):
    def test_no_card_at_all(self):
        for number in range(52, 256):
            self.told(4, 0, EXAMPLE, [number], [-1000])
            self.told(4, 0, EXAMPLE, cards("SA HA") + [number], [-1002])
            self.told(4, 0, EXAMPLE, cards("SA HA S2 CA HK D2 DA DK") + [number], [-1008])

    def test_card_of_another_player(self):
        for leader in range(4):
            for number in range(52):
                held = number in hands_of(EXAMPLE)[leader]
                answer = [0, 0, 0, (leader + 1) % 4, 1] if held else [-1000]
                self.told(4, leader, EXAMPLE, [number], answer)

    def test_card_of_nobody(self):
        self.told(4, 0, EXAMPLE, "SK", [-1000])
        self.told(4, 0, EXAMPLE, "SA HA H2", [-1002])

    def test_card_played_before(self):
        self.told(4, 0, EXAMPLE, "SA HA S2 CA SA", [-1004])
        self.told(4, 0, EXAMPLE, "SA HA S2 SA", [-1003])
        self.told(4, 0, EXAMPLE, "SA SA", [-1001])
        self.told(4, 1, EXAMPLE, "D2 DA DK HK DA", [-1004])

    def test_another_suit_than_the_one_led(self):
        self.told(4, 3, EXAMPLE, "DK SA D2 DA", [1, 1, 0, 2, 0])
        self.told(4, 3, EXAMPLE, "DK SA HA DA", [-1002])
        self.told(4, 3, EXAMPLE, "DK SA D2 S2", [-1003])
        self.told(4, 0, EXAMPLE, "SA HA DA", [-1002])
        self.told(4, 0, EXAMPLE, "HK D2", [-1001])
        self.told(4, 0, EXAMPLE, "SA D2", [0, 0, 0, 2, 2])

    def test_trump_is_no_way_out_of_the_suit_led(self):
        self.told(2, 0, SPADES_AND_A_HEART, "SA SK SQ HA", [-1003])
        self.told(2, 0, SPADES_AND_A_HEART, "SA SK SQ SJ S2 S3 S4 HA", [2, 1, 1, 4, 0])
        self.told(4, 0, SPADES_AND_A_HEART, "SA SK SQ SJ S2 S3 S4 HA", [2, 2, 0, 4, 0])

    def test_any_card_may_be_led(self):
        self.told(2, 3, SPADES_AND_A_HEART, "HA", [0, 0, 0, 0, 1])
        self.told(2, 3, SPADES_AND_A_HEART, "SJ", [0, 0, 0, 0, 1])
        self.told(4, 1, EXAMPLE, "D2 DA DK HK S2", [1, 1, 0, 3, 1])

    def test_out_of_turn(self):
        self.told(4, 0, EXAMPLE, "SA S2", [-1001])
        # East has the first trick and leads.
        self.told(4, 0, EXAMPLE, "HK HA DA CA SA", [-1004])

    def test_none_are_left(self):
        all_of_them = cards("SA HA S2 CA HK D2 DA DK")
        for number in range(256):
            self.told(4, 0, EXAMPLE, all_of_them + [number], [-1008])
            self.told(4, 0, EXAMPLE, all_of_them + [number, 51], [-1008])
        self.told(4, 0, EXAMPLE, all_of_them + all_of_them, [-1008])
        self.told(4, 0, ONE_EACH, [51, 38, 25, 12, 51], [-1004])
        self.told(4, 0, ONE_EACH, [51, 38, 25, 12] * 13, [-1004])

    def test_first_one_is_told(self):
        self.told(4, 0, EXAMPLE, [51, 255, 254, 253], [-1001])
        self.told(4, 0, EXAMPLE, [0] * 52, [-1000])

    def test_last_card_of_thirteen(self):
        played = line_of_play(random.Random(1), 2, 1, hands_of(MIXED))
        self.told(2, 1, MIXED, played[:51] + [played[0]], [-1051])
        self.told(2, 1, MIXED, played[:51] + [52], [-1051])

    def test_more_than_52_cards(self):
        played = line_of_play(random.Random(1), 2, 1, hands_of(MIXED))
        self.told(2, 1, MIXED, played + [0], [-2])


class NumbersOutOfRange(Case):
    TEXTS = (EXAMPLE, MIXED, "", "A.K", "... ... ... ...", "A... A... A... A...")

    def test_trump(self):
        for trump in (LOWEST, -2, -1, 5, 6, HIGHEST):
            for text in self.TEXTS:
                for played in ([], [51], [255]):
                    self.told(trump, 0, text, played, [-2])

    def test_leader(self):
        for leader in (LOWEST, -2, -1, 4, 5, HIGHEST):
            for text in self.TEXTS:
                for played in ([], [51], [255]):
                    self.told(0, leader, text, played, [-2])

    def test_both(self):
        for trump, leader in itertools.product((LOWEST, -1, 5, HIGHEST), (LOWEST, -1, 4, HIGHEST)):
            self.told(trump, leader, EXAMPLE, [], [-2])

    def test_edges_are_within(self):
        for trump, leader in itertools.product((0, 4), (0, 3)):
            self.told(trump, leader, EXAMPLE, [], [0, 0, 0, leader, 0])

    def test_longest_text(self):
        self.told(0, 0, "." * 300, [], [-103])
        self.told(0, 0, "." * 301, [], [-2])


class ErrorsOfDeals(Case):
    def test_each(self):
        for text, number in DEAL_ERRORS:
            for played in ([], [51], [255], [0] * 52):
                self.told(4, 0, text, played, [number])
                self.told(0, 3, text, played, [number])


class EveryPlay(Case):
    def test_all_plays_of_two_cards_each(self):
        for text in (EXAMPLE, SPADES_AND_A_HEART):
            hands = hands_of(text)
            for trump, leader in itertools.product(range(5), range(4)):
                begun = [[]]
                while begun:
                    played = begun.pop()
                    self.check(trump, leader, text, played)
                    begun += [played + [number] for number in allowed(trump, leader, hands, played)]

    def test_every_number_behind_every_part_of_a_line(self):
        chance = random.Random(2)
        for count in (1, 2, 3, 5):
            text = random_deal(chance, count)
            for trump, leader in itertools.product((0, 3, 4), range(4)):
                played = line_of_play(chance, trump, leader, hands_of(text))
                for length in range(len(played) + 1):
                    for number in range(56):
                        self.check(trump, leader, text, played[:length] + [number])

    def test_lines_of_each_length(self):
        chance = random.Random(3)
        for count in range(1, 14):
            for trump, leader in itertools.product(range(5), range(4)):
                text = random_deal(chance, count)
                played = line_of_play(chance, trump, leader, hands_of(text))
                for length in (0, 1, 2, 3, 4, 2 * count + 1, 4 * count - 1, 4 * count):
                    self.check(trump, leader, text, played[:length])
                wrong = chance.randrange(4 * count)
                self.check(trump, leader, text, played[:wrong] + [chance.randrange(52)] + played[wrong + 1:])


class WhatIsHandedInAndBack(Manners, unittest.TestCase):
    function = staticmethod(play)
    granted = (
        (4, 0, EXAMPLE, []), (4, 0, EXAMPLE, cards("SA HA S2")), (4, 0, EXAMPLE, cards("SA HA S2 CA HK D2 DA DK")),
        (2, 3, MIXED, []), (1, 2, MIXED, line_of_play(random.Random(4), 1, 2, hands_of(MIXED))),
        (0, 1, ONE_EACH, [38, 25]),
    )
    refused = (
        (5, 0, EXAMPLE, []), (0, -1, "?", []), (LOWEST, HIGHEST, "", [255]), (0, 0, "", [51]), (0, 0, "A.K", []),
        (0, 0, "... ... ... ...", []), (0, 0, "A... A... A... A...", [0]), (4, 0, EXAMPLE, [0]),
        (4, 0, EXAMPLE, [255] * 52), (4, 0, EXAMPLE, cards("SA HA S2 CA HK D2 DA DK SA")), (0, 0, "." * 300, []),
    )

    def test_lengths(self):
        for arguments in self.granted:
            self.assertEqual(len(self.ask(arguments)), 5)


if __name__ == "__main__":
    unittest.main()
