"""Promise 6, table, and what the document says ahead of it."""

import random
import unittest

from fourhands.desk import best, table
from helper import DEAL_ERRORS, AllPlays, Manners, bytes_of, deal_of, random_deal

EXAMPLE = "A.K.. .A.2. 2..A. ..K.A"
ONE_EACH = "A... .A.. ..A. ...A"
FIVE_SUITS = "AKQJT... .AKQJT.. ..AKQJT. ...AKQJT"
EIGHT_EACH = "AK.AK.AK.AK QJ.QJ.QJ.QJ T9.T9.T9.T9 87.87.87.87"
NINE_EACH = "AKQJT9876... .AKQJT9876.. ..AKQJT9876. ...AKQJT9876"
PACKS = (range(52), range(26), range(20), [13 * suit + rank for suit in range(4) for rank in range(8, 13)])


def ask(text):
    return table(bytes_of(text))


class Case(unittest.TestCase):
    def told(self, text, answer):
        with self.subTest(text=text):
            self.assertEqual(ask(text), answer)

    def check_by_best(self, text):
        with self.subTest(text=text):
            answer = ask(text)
            self.assertEqual(len(answer), 21)
            self.assertEqual(answer[0], 0)
            for trump in range(5):
                for leader in range(4):
                    worth = best(trump, leader, bytes_of(text))[0]
                    self.assertEqual(answer[1 + 4 * trump + leader], worth, (trump, leader))

    def check_by_all_plays(self, text):
        wanted = [0]
        for trump in range(5):
            reckoned = AllPlays(trump, text)
            wanted += [reckoned.worth(leader) for leader in range(4)]
        self.told(text, wanted)


class OrdinaryDeals(Case):
    def test_one_card_each(self):
        # West has the club, south the diamond, east the heart, north the spade; without trump the leader takes it.
        self.told(ONE_EACH, [0, 0, 1, 0, 1, 1, 0, 1, 0, 0, 1, 0, 1, 1, 0, 1, 0, 1, 1, 1, 1])

    def test_example_of_the_document(self):
        self.told(EXAMPLE, [0, 1, 2, 1, 1, 1, 1, 2, 1, 1, 1, 1, 1, 2, 0, 2, 0, 1, 1, 2, 1])

    def test_one_side_takes_all(self):
        self.told("AK... QJ... T9... 87...", [0] + [2, 0] * 10)
        self.told("QJ... AK... 87... T9...", [0] + [0, 2] * 10)

    def test_one_suit_each(self):
        self.assertEqual(len(FIVE_SUITS), 35)
        self.told(FIVE_SUITS, [0] + [0, 5, 0, 5] + [5, 0, 5, 0] + [0, 5, 0, 5] + [5, 0, 5, 0] + [5, 5, 5, 5])

    def test_worths_that_best_tells(self):
        chance = random.Random(1)
        for count in range(1, 6):
            for pack in PACKS:
                self.check_by_best(random_deal(chance, count, pack))

    def test_worths_that_all_plays_tell(self):
        chance = random.Random(2)
        for count, deals in ((1, 20), (2, 20), (3, 10), (4, 3)):
            for number in range(deals):
                self.check_by_all_plays(random_deal(chance, count, PACKS[number % 4]))

    def test_text_of_35_bytes(self):
        text = random_deal(random.Random(3), 5)
        self.assertEqual(len(text), 35)
        self.check_by_best(text)
        self.check_by_all_plays(text)

    def test_players_changed_round(self):
        chance = random.Random(4)
        for count in (2, 3, 4):
            hands = random_deal(chance, count).split(" ")
            answer = ask(" ".join(hands))[1:]
            moved = ask(" ".join(hands[1:] + hands[:1]))[1:]
            for trump in range(5):
                row = answer[4 * trump:4 * trump + 4]
                self.assertEqual(moved[4 * trump:4 * trump + 4], row[1:] + row[:1])


class WrongDeals(Case):
    def test_each_error_of_deals(self):
        for text, number in DEAL_ERRORS:
            self.told(text, [number])

    def test_empty_text(self):
        self.assertEqual(table([]), [-100])

    def test_texts_of_35_bytes(self):
        self.told("." * 35, [-103])
        self.told(" " * 35, [-100])
        self.told("AKQJT... .AKQJT.. ..AKQJT. ...AKQJA", [-134])
        self.told("AKQJT... .AKQJT.. ..AKQJT. ..AKQJT.", [-6])
        self.told("AKQJT9... .AKQJT.. ..AKQJT. ...AKQJ", [-5])

    def test_longest_text(self):
        self.told("." * 300, [-103])
        self.told("." * 301, [-2])

    def test_more_than_eight_cards(self):
        for count in range(9, 14):
            self.told(deal_of([[13 * suit + rank for rank in range(count)] for suit in (3, 2, 1, 0)]), [-7])
        self.told(NINE_EACH[:-1], [-5])
        self.told(NINE_EACH + " ", [-100 - len(NINE_EACH)])

    def test_eight_cards_are_not_too_many(self):
        self.told(EIGHT_EACH, [0] + [8, 0] * 10)


class WhatIsHandedInAndBack(Manners, unittest.TestCase):
    function = staticmethod(table)
    granted = ((ONE_EACH,), (EXAMPLE,), ("AK... QJ... T9... 87...",), ("AJ5... K9.Q.. Q.K2.. 8.J.K.",))
    refused = (("",), ("A.K",), ("... ... ... ...",), ("A... A... A... A...",), ("." * 35,), (NINE_EACH,))

    def test_lengths(self):
        for arguments in self.granted:
            self.assertEqual(len(self.ask(arguments)), 21)


if __name__ == "__main__":
    unittest.main()
