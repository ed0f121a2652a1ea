"""Promise 5, best, and what the document says ahead of it."""

import itertools
import random
import unittest

from fourhands.desk import best, play
from helper import DEAL_ERRORS, HIGHEST, LOWEST, AllPlays, Manners, bytes_of, deal_of, random_deal

EXAMPLE = "A.K.. .A.2. 2..A. ..K.A"
ONE_EACH = "A... .A.. ..A. ...A"
ALL_SPADES = "AK... QJ... T9... 87..."
FOUR_EACH = "AJ5.3.. K9.Q.J. Q.K2.A. 8.J.K.9"
NINE_EACH = "AKQJT9876... .AKQJT9876.. ..AKQJT9876. ...AKQJT9876"
EIGHT_EACH = "AK.AK.AK.AK QJ.QJ.QJ.QJ T9.T9.T9.T9 87.87.87.87"
TRUMPS_AND_LEADERS = list(itertools.product(range(5), range(4)))


def ask(trump, leader, text):
    return best(trump, leader, bytes_of(text))


class Case(unittest.TestCase):
    def told(self, trump, leader, text, answer):
        with self.subTest(trump=trump, leader=leader, text=text):
            self.assertEqual(ask(trump, leader, text), answer)

    def check(self, text, trumps=range(5), leaders=range(4)):
        for trump in trumps:
            reckoned = AllPlays(trump, text)
            for leader in leaders:
                answer = ask(trump, leader, text)
                wanted = reckoned.best(leader)
                if answer != wanted:
                    self.fail(f"trump {trump}, leader {leader}, {text!r}: {answer} in place of {wanted}")
                self.check_line(trump, leader, text, answer)

    def check_line(self, trump, leader, text, answer):
        """The cards are all cards, may be played one behind the other, and take what is told."""
        count = (len(answer) - 1) // 4
        done = play(trump, leader, bytes_of(text), answer[1:])
        self.assertEqual(done[0], count)
        self.assertEqual(done[3:], [4, 0])
        self.assertEqual(done[1 + leader % 2], answer[0])


class OrdinaryDeals(Case):
    def test_one_card_each(self):
        for leader in range(4):
            cards = [[51, 38, 25, 12][(leader + place) % 4] for place in range(4)]
            self.told(4, leader, ONE_EACH, [1] + cards)
            for trump, winner in ((3, 0), (2, 1), (1, 2), (0, 3)):
                self.told(trump, leader, ONE_EACH, [int(leader % 2 == winner % 2)] + cards)

    def test_example_of_the_document(self):
        self.told(4, 0, EXAMPLE, [1, 51, 13, 39, 24, 37, 38, 25, 12])
        self.told(3, 0, EXAMPLE, [2, 37, 38, 39, 24, 25, 12, 51, 13])
        self.check(EXAMPLE)

    def test_deals_of_one_to_three(self):
        chance = random.Random(1)
        for count, deals in ((1, 20), (2, 20), (3, 12)):
            for _ in range(deals):
                self.check(random_deal(chance, count))

    def test_deals_of_two_and_three_out_of_few_suits(self):
        chance = random.Random(2)
        for pack in (range(13), range(20, 39), [13 * suit + rank for suit in range(4) for rank in (3, 7, 12)]):
            for count in (2, 3):
                for _ in range(4):
                    self.check(random_deal(chance, count, pack))

    def test_deals_of_four(self):
        chance = random.Random(3)
        for pack in (range(52), range(52), range(26), [13 * suit + rank for suit in range(4) for rank in range(9, 13)]):
            self.check(random_deal(chance, 4, pack))

    def test_deals_of_five(self):
        chance = random.Random(4)
        for pack in (range(52), range(13, 39)):
            text = random_deal(chance, 5, pack)
            self.assertEqual(len(text), 35)
            self.check(text)

    def test_five_cards_for_one_trump_and_leader(self):
        chance = random.Random(5)
        packs = (range(52), range(26, 52), range(20), [13 * suit + rank for suit in range(4) for rank in range(8, 13)])
        for number, (trump, leader) in enumerate(TRUMPS_AND_LEADERS):
            self.check(random_deal(chance, 5, packs[number % 4]), [trump], [leader])

    def test_all_of_one_suit_each(self):
        text = "AKQJT... .AKQJT.. ..AKQJT. ...AKQJT"
        self.assertEqual(len(text), 35)
        for trump, leader in TRUMPS_AND_LEADERS:
            winner = leader if trump == 4 else 3 - trump
            answer = ask(trump, leader, text)
            self.assertEqual(answer[0], 5 if winner % 2 == leader % 2 else 0)
            self.check_line(trump, leader, text, answer)

    def test_lines_of_many_deals_of_five(self):
        chance = random.Random(6)
        for trump, leader in TRUMPS_AND_LEADERS:
            text = random_deal(chance, 5)
            self.check_line(trump, leader, text, ask(trump, leader, text))


class WhatIsBest(Case):
    def test_side_of_the_leader_is_told(self):
        self.told(4, 0, ALL_SPADES, [2, 51, 49, 47, 45, 50, 48, 46, 44])
        self.told(4, 1, ALL_SPADES, [0, 49, 47, 45, 51, 50, 48, 46, 44])
        self.told(4, 2, ALL_SPADES, [2, 47, 45, 51, 49, 50, 48, 46, 44])
        self.told(4, 3, ALL_SPADES, [0, 45, 51, 49, 47, 50, 48, 46, 44])

    def test_highest_of_several_by_the_leaders_side(self):
        # North takes both tricks by either ace first.
        self.told(4, 0, "A.A.. K.K.. Q.Q.. J.J..", [2, 51, 50, 49, 48, 38, 37, 36, 35])
        # South's lower cards would do as well.
        self.told(4, 0, "A..A. K.K.. QJ... .QJ..", [2, 51, 50, 49, 36, 25, 37, 48, 35])

    def test_highest_of_several_by_the_other_side(self):
        # East takes the trick by either card and has the other one for the next.
        self.told(4, 0, "32... AK... 54... 76...", [0, 40, 51, 42, 44, 50, 41, 43, 39])
        self.told(4, 2, "54... 76... 32... AK...", [0, 40, 51, 42, 44, 50, 41, 43, 39])

    def test_highest_number_goes_over_suits(self):
        # No trick depends on what east and west discard: spades go ahead of hearts, hearts ahead of diamonds.
        self.told(4, 0, "...AK 2.2.. ...QJ .3.2.", [2, 12, 39, 10, 27, 11, 26, 9, 13])

    def test_highest_is_not_taken_where_it_costs_a_trick(self):
        # Under the ace west keeps the king, which takes the queen; so does south, of the leader's side.
        self.told(4, 0, "AQ... 43... 65... KJ...", [1, 51, 41, 43, 48, 49, 40, 42, 50])
        self.told(4, 0, "43... AQ... KJ... 65...", [1, 41, 51, 48, 43, 49, 50, 42, 40])

    def test_trump_changes_the_worth(self):
        self.told(4, 0, "A... K... Q... ...2", [1, 51, 50, 49, 0])
        self.told(0, 0, "A... K... Q... ...2", [0, 51, 50, 49, 0])


class NumbersOutOfRange(Case):
    TEXTS = (EXAMPLE, "", "A.K", "... ... ... ...", "A... A... A... A...", NINE_EACH)

    def test_trump(self):
        for trump in (LOWEST, -2, -1, 5, 6, HIGHEST):
            for text in self.TEXTS:
                self.told(trump, 0, text, [-2])

    def test_leader(self):
        for leader in (LOWEST, -2, -1, 4, 5, HIGHEST):
            for text in self.TEXTS:
                self.told(0, leader, text, [-2])

    def test_both(self):
        for trump, leader in itertools.product((LOWEST, -1, 5, HIGHEST), (LOWEST, -1, 4, HIGHEST)):
            self.told(trump, leader, EXAMPLE, [-2])

    def test_longest_text(self):
        self.told(0, 0, "." * 300, [-103])
        self.told(0, 0, "." * 301, [-2])


class WrongDeals(Case):
    def test_each_error_of_deals(self):
        for text, number in DEAL_ERRORS:
            self.told(4, 0, text, [number])
            self.told(0, 3, text, [number])

    def test_more_than_eight_cards(self):
        letters = "AKQJT98765432"
        for count in range(9, 14):
            text = deal_of([[13 * suit + rank for rank in range(count)] for suit in (3, 2, 1, 0)])
            for trump, leader in TRUMPS_AND_LEADERS:
                self.told(trump, leader, text, [-7])
            self.told(0, 0, f"{letters[:count]}... " * 3 + f"{letters[:count]}...", [-6])
        self.told(0, 0, NINE_EACH[:-1], [-5])
        self.told(0, 0, NINE_EACH + "?", [-100 - len(NINE_EACH)])

    def test_eight_cards_are_not_too_many(self):
        for leader, worth in ((0, 8), (1, 0), (2, 8), (3, 0)):
            answer = ask(4, leader, EIGHT_EACH)
            self.assertEqual(answer[0], worth)
            self.assertEqual(len(answer), 33)
            self.check_line(4, leader, EIGHT_EACH, answer)


class WhatIsHandedInAndBack(Manners, unittest.TestCase):
    function = staticmethod(best)
    granted = (
        (4, 0, ONE_EACH), (0, 3, ONE_EACH), (4, 0, EXAMPLE), (2, 1, EXAMPLE), (3, 2, ALL_SPADES),
        (1, 3, FOUR_EACH), (4, 2, FOUR_EACH),
    )
    refused = (
        (5, 0, EXAMPLE), (0, -1, "?"), (LOWEST, HIGHEST, ""), (0, 0, ""), (0, 0, "A.K"), (0, 0, "... ... ... ..."),
        (0, 0, "A... A... A... A..."), (4, 0, "." * 35), (4, 0, NINE_EACH),
    )

    def test_lengths(self):
        for arguments in self.granted:
            answer = self.ask(arguments)
            cards = sum(sign in "AKQJT98765432" for sign in arguments[2])
            self.assertEqual(len(answer), 1 + cards)


if __name__ == "__main__":
    unittest.main()
