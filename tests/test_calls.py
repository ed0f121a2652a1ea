"""Promise 2, calls, and what the document says ahead of it."""

import itertools
import random
import re
import unittest

from fourhands.desk import calls
from helper import HIGHEST, LOWEST, Manners, bytes_of

CALL = "(?:P|XX|X|[1-7][CDHSN])"
BEGUN = re.compile(f"(?:{CALL} )*(?:{CALL}|[1-7])?")
WHOLE = re.compile(f"(?:{CALL}(?: {CALL})*)?")
BIDS = [f"{level}{strain}" for level in range(1, 8) for strain in "CDHSN"]


def ask(text, dealer=0):
    return calls(dealer, bytes_of(text))


def misplaced(text):
    """The place of the first byte that can't stand where it does, None if all can."""
    for place in range(len(text)):
        if not BEGUN.fullmatch(text[:place + 1]):
            return place
    return None if WHOLE.fullmatch(text) else len(text)


def at_an_end(said):
    if said[:4] == ["P"] * 4:
        return True
    return any(call in BIDS for call in said) and said[-3:] == ["P"] * 3


def may_come(said, call):
    """Whether call may come behind said, told by looking back over all of it."""
    if at_an_end(said):
        return False
    if call == "P":
        return True
    if call in BIDS:
        return all(BIDS.index(call) > BIDS.index(other) for other in said if other in BIDS)
    for back, other in enumerate(reversed(said)):
        if other != "P":
            by_others = back % 2 == 0
            return by_others and (other in BIDS if call == "X" else other == "X")
    return False


def agreed(dealer, said):
    if not at_an_end(said):
        return [0]
    if set(said) == {"P"}:
        return [1]
    last = max(number for number, call in enumerate(said) if call in BIDS)
    doubled = 2 if "XX" in said[last:] else 1 if "X" in said[last:] else 0
    first = min(number for number, call in enumerate(said)
                if call in BIDS and call[1] == said[last][1] and number % 2 == last % 2)
    return [2, int(said[last][0]), "CDHSN".index(said[last][1]), doubled, (dealer + first) % 4]


def expected(dealer, text):
    """What the document asks of a text, told by patterns and by looking back in place of a walk."""
    if dealer not in range(4):
        return [-2]
    place = misplaced(text)
    said = [call for call in text[:place].split(" ") if re.fullmatch(CALL, call)]
    for number, call in enumerate(said):
        if not may_come(said[:number], call):
            return [-1000 - number]
    if place is not None:
        return [-100 - place]
    return agreed(dealer, said)


class Case(unittest.TestCase):
    def told(self, text, answer, dealer=0):
        with self.subTest(text=text, dealer=dealer):
            self.assertEqual(ask(text, dealer), answer)

    def check(self, text, dealer=0):
        answer = ask(text, dealer)
        wanted = expected(dealer, text)
        if answer != wanted:
            self.fail(f"{text!r}, dealer {dealer}: {answer} in place of {wanted}")


class OrdinaryCalls(Case):
    def test_empty_text(self):
        for dealer in range(4):
            self.told("", [0], dealer)

    def test_all_pass(self):
        for dealer in range(4):
            self.told("P", [0], dealer)
            self.told("P P", [0], dealer)
            self.told("P P P", [0], dealer)
            self.told("P P P P", [1], dealer)

    def test_each_bid_and_three_passes(self):
        for dealer in range(4):
            for level in range(1, 8):
                for strain, letter in enumerate("CDHSN"):
                    self.told(f"{level}{letter} P P P", [2, level, strain, 0, dealer], dealer)
                    self.told(f"P {level}{letter} P P P", [2, level, strain, 0, (dealer + 1) % 4], dealer)
                    self.told(f"P P {level}{letter} P P P", [2, level, strain, 0, (dealer + 2) % 4], dealer)
                    self.told(f"P P P {level}{letter} P P P", [2, level, strain, 0, (dealer + 3) % 4], dealer)

    def test_not_at_an_end_yet(self):
        for text in ("1C", "1C P", "1C P P", "P P P 1C", "P P P 1C P P", "1C P P X", "1C P P X P P", "1C X XX P P",
                     "1C P P 1D P P", "7N", "7N X XX"):
            self.told(text, [0])

    def test_doubled(self):
        self.told("1C X P P P", [2, 1, 0, 1, 0])
        self.told("1C P P X P P P", [2, 1, 0, 1, 0])
        self.told("1C X XX P P P", [2, 1, 0, 2, 0])
        self.told("1C X P P XX P P P", [2, 1, 0, 2, 0])
        self.told("1C P P X P P XX P P P", [2, 1, 0, 2, 0])
        self.told("3S X XX P P P", [2, 3, 3, 2, 3], 3)

    def test_later_bid_takes_doubling_away(self):
        self.told("1C X 1D P P P", [2, 1, 1, 0, 2])
        self.told("1C X XX 1D P P P", [2, 1, 1, 0, 3])
        self.told("1C X XX 1D X P P P", [2, 1, 1, 1, 3])
        self.told("1C X 1D X XX P P P", [2, 1, 1, 2, 2])
        self.told("1C X XX P 1D P P P", [2, 1, 1, 0, 0])

    def test_every_bid_in_a_row(self):
        self.told(" ".join(BIDS), [0])
        self.told(" ".join(BIDS) + " P P P", [2, 7, 4, 0, 0])
        self.told(" ".join(BIDS) + " X XX P P P", [2, 7, 4, 2, 0])

    def test_longest_of_all_calls(self):
        said = "P P P " + " P P ".join(f"{bid} P P X P P XX" for bid in BIDS)
        self.assertGreater(len(said), 300)
        for length in range(0, 301):
            self.check(said[:length], length % 4)


class WhoDeclares(Case):
    def test_first_of_the_side_not_the_last(self):
        self.told("1S P 2S P P P", [2, 2, 3, 0, 0])
        self.told("P 1H P 4H P P P", [2, 4, 2, 0, 1])
        self.told("1N P 3N P P P", [2, 3, 4, 0, 1], 1)
        self.told("1C P 1S P 2S P 4S P P P", [2, 4, 3, 0, 2])
        self.told("1C P 1S P 2S P 4S P P P", [2, 4, 3, 0, 0], 2)

    def test_first_of_the_side_not_of_the_table(self):
        self.told("1S 2S P P P", [2, 2, 3, 0, 1])
        self.told("1S P P 2S P P P", [2, 2, 3, 0, 3])
        self.told("1S 2S 3S P P P", [2, 3, 3, 0, 0])
        self.told("1S 2S 3S 4S P P P", [2, 4, 3, 0, 1])
        self.told("P 1D 2D P P 3D P P P", [2, 3, 1, 0, 1])

    def test_another_strain_does_not_count(self):
        self.told("1C P 1D P P P", [2, 1, 1, 0, 2])
        self.told("1H P 1S P 2C P 3N P P P", [2, 3, 4, 0, 2])
        self.told("1D P 1H P 2D P P P", [2, 2, 1, 0, 0])

    def test_with_doubling_between(self):
        self.told("1S X XX 2C 2S X P P P", [2, 2, 3, 1, 0])


class CallsThatMayNotCome(Case):
    def test_every_bid_behind_every_bid(self):
        for first, low in enumerate(BIDS):
            for second, bid in enumerate(BIDS):
                self.told(f"{low} {bid}", [0] if second > first else [-1001])
                self.told(f"{low} P P {bid}", [0] if second > first else [-1003])

    def test_named_edges_of_bids(self):
        self.told("2H 2S", [0])
        self.told("2H 2H", [-1001])
        self.told("2H 2D", [-1001])
        self.told("2H 1N", [-1001])
        self.told("2N 3C", [0])
        self.told("1C 2C P 1N", [-1003])

    def test_double(self):
        self.told("X", [-1000])
        self.told("P X", [-1001])
        self.told("P P P X", [-1003])
        self.told("1C X", [0])
        self.told("1C P X", [-1002])
        self.told("1C P P X", [0])
        self.told("P 1C P X", [-1003])
        self.told("1C X X", [-1002])
        self.told("1C X P X", [-1003])
        self.told("1C X P P X", [-1004])
        self.told("1C X XX X", [-1003])
        self.told("1C X XX P X", [-1004])
        self.told("1C X XX P P X", [-1005])
        self.told("1C X 1D X", [0])
        self.told("1C 1D P X", [-1003])

    def test_redouble(self):
        self.told("XX", [-1000])
        self.told("P XX", [-1001])
        self.told("1C XX", [-1001])
        self.told("1C P XX", [-1002])
        self.told("1C P P XX", [-1003])
        self.told("1C X XX", [0])
        self.told("1C X P XX", [-1003])
        self.told("1C X P P XX", [0])
        self.told("1C X XX XX", [-1003])
        self.told("1C X XX P XX", [-1004])
        self.told("1C X XX P P XX", [-1005])
        self.told("1C X 1D XX", [-1003])

    def test_behind_four_passes_at_first(self):
        for call in ["P", "X", "XX"] + BIDS:
            self.told(f"P P P P {call}", [-1004])
            self.told(f"P P P P {call} P", [-1004])

    def test_behind_three_passes_behind_a_bid(self):
        for call in ["P", "X", "XX"] + BIDS:
            self.told(f"1C P P P {call}", [-1004])
            self.told(f"P P P 1C P P P {call}", [-1007])
            self.told(f"1C X P P P {call}", [-1005])
            self.told(f"1C X XX P P P {call}", [-1006])

    def test_three_passes_at_first_are_no_end(self):
        self.told("P P P 1C", [0])
        self.told("P P P 1C P", [0])
        self.told("P P P 1C X P P P", [2, 1, 0, 1, 3])

    def test_first_one_is_told(self):
        self.told("1D 1C X XX", [-1001])
        self.told("1C P X X 1C", [-1002])

    def test_numbers_of_two_figures(self):
        said = ["P", "P", "P"] + BIDS[:20]
        self.told(" ".join(said + ["1C"]), [-1023])


class MisplacedBytes(Case):
    def test_blanks(self):
        self.told(" ", [-100])
        self.told(" P", [-100])
        self.told("  ", [-100])
        self.told("P ", [-102])
        self.told("1C ", [-103])
        self.told("1C X XX ", [-108])
        self.told("P  P", [-102])
        self.told("P   P", [-102])
        self.told("1C  1D", [-103])
        self.told("1 C", [-101])

    def test_no_blank_between(self):
        self.told("PP", [-101])
        self.told("PX", [-101])
        self.told("P1C", [-101])
        self.told("1C1D", [-102])
        self.told("1CP", [-102])
        self.told("1C XP", [-104])
        self.told("1C X1D", [-104])
        self.told("1C X XXP", [-107])
        self.told("1C X XX1D", [-107])
        self.told("1CX", [-102])
        self.told("1CC", [-102])

    def test_number_without_a_strain(self):
        for level in "1234567":
            self.told(level, [-101])
            self.told(f"P {level}", [-103])
            for byte in " PX17ABcnds0\x00\n\xff":
                self.told(level + byte, [-101])
                self.told(f"P P {level}{byte}", [-105])

    def test_strain_without_a_number(self):
        for strain in "CDHSN":
            self.told(strain, [-100])
            self.told(f"P {strain}", [-102])

    def test_numbers_that_are_no_level(self):
        for digit in "089":
            self.told(digit, [-100])
            for strain in "CDHSN":
                self.told(digit + strain, [-100])
                self.told(f"1C {digit}{strain}", [-103])
        self.told("10", [-101])
        self.told("11C", [-101])

    def test_small_letters(self):
        for text in ("p", "x", "xx", "c"):
            self.told(text, [-100])
        for text in ("1c", "1d", "1h", "1s", "1n"):
            self.told(text, [-101])
        self.told("1C x", [-103])
        self.told("1C X xX", [-105])
        self.told("1C X Xx", [-1002])

    def test_as_long_as_it_can_be(self):
        self.told("1C XX", [-1001])
        self.told("1C X XX", [0])
        self.told("1C X XXX", [-107])
        self.told("1C X XXXX", [-107])

    def test_words(self):
        self.told("1NT", [-102])
        self.told("Pass", [-101])
        self.told("D", [-100])
        self.told("P\nP", [-101])
        self.told("P,P", [-101])
        self.told("P\tP", [-101])


class WhatComesFirst(Case):
    def test_wrong_byte_within_the_call_that_may_not_come(self):
        self.told("2C 1", [-104])
        self.told("2C 1?", [-104])
        self.told("2C ?", [-103])
        self.told("P P P P ?", [-108])
        self.told("P P P P ", [-108])
        self.told("P P P P 1", [-109])
        self.told("P P P P 1?", [-109])
        self.told("P P P P 8C", [-108])
        self.told("1C P P P ", [-109])
        self.told("1C P P P c", [-109])

    def test_wrong_byte_behind_the_call_that_may_not_come(self):
        self.told("X ?", [-1000])
        self.told("X ", [-1000])
        self.told("X?", [-1000])
        self.told("XXX", [-1000])
        self.told("2C 1C?", [-1001])
        self.told("2C 1C ?", [-1001])
        self.told("2C 1C  P", [-1001])
        self.told("2C 1C P ?", [-1001])
        self.told("P P P P P?", [-1004])

    def test_wrong_byte_ahead_of_the_call_that_may_not_come(self):
        self.told("? X", [-100])
        self.told("P  X", [-102])
        self.told("1C 1D? 1C", [-105])
        self.told("P P P P? P", [-107])


class Dealers(Case):
    def test_out_of_range(self):
        for dealer in (LOWEST, -2, -1, 4, 5, HIGHEST):
            for text in ("", "P", "P P P P", "1C P P P", "?", " ", "X", "P P P P P", "1"):
                self.told(text, [-2], dealer)

    def test_dealer_moves_who_declares_alone(self):
        for dealer in range(4):
            self.told("P 1D 2C X P 2D 3C P P P", [2, 3, 0, 0, (dealer + 2) % 4], dealer)


class LongTexts(Case):
    def test_texts_of_300_bytes(self):
        self.told("P" * 300, [-101])
        self.told(" " * 300, [-100])
        self.told("P " * 150, [-1004])
        self.told("X" * 300, [-1000])
        bids = " ".join(BIDS) + " X"
        self.told(bids + " P" * ((300 - len(bids)) // 2), [-1000 - 39])
        long = "P P P " + " ".join(f"{bid} P P X P P" for bid in BIDS)
        self.assertGreater(len(long), 300)
        self.assertEqual(len(long[:300]), 300)
        self.check(long[:300])

    def test_calls_of_300_bytes_that_are_at_an_end(self):
        text = "P P P " + "".join(f"{bid} P P X P P XX P P " for bid in BIDS[:14]) + "3N P P X P P P"
        self.assertEqual(len(text), 300)
        # The side that bids 3N has bid 1N as call 39; the other side has bid 2N.
        for dealer in range(4):
            self.told(text, [2, 3, 4, 1, (dealer + 39) % 4], dealer)
        self.told(text[:299] + "?", [-399])
        self.told(text[:298] + "  ", [-399])

    def test_text_of_more_than_300_bytes(self):
        self.told("P" * 301, [-2])
        self.told(" ".join(["P"] * 151), [-2])


class EverySequence(Case):
    def test_all_short_sequences(self):
        words = ["P", "X", "XX", "1C", "1N", "2C"]
        for length in range(6):
            for said in itertools.product(words, repeat=length):
                self.check(" ".join(said), length % 4)

    def test_all_sequences_that_may_come(self):
        words = ["P", "X", "XX", "1C", "1D", "2C"]
        open_ones = [[]]
        while open_ones:
            said = open_ones.pop()
            for word in words:
                if may_come(said, word):
                    further = said + [word]
                    self.check(" ".join(further), len(further) % 4)
                    if len(further) < 9:
                        open_ones.append(further)

    def test_long_sequences(self):
        chance = random.Random(5)
        for _ in range(1500):
            said = []
            while len(said) < 60 and not at_an_end(said):
                higher = [bid for bid in BIDS if may_come(said, bid)][:4]
                choices = ["P", "P", "X", "XX"] + higher
                choices = [call for call in choices if may_come(said, call)]
                said.append(chance.choice(choices))
            text = " ".join(said)
            dealer = chance.randrange(4)
            self.check(text, dealer)
            self.check(text + " " + chance.choice(["P", "X", "XX"] + BIDS), dealer)

    def test_all_short_texts(self):
        for length in range(7):
            for signs in itertools.product("PX1C ?", repeat=length):
                self.check("".join(signs))

    def test_every_byte_in_every_place(self):
        for text in ("1C X XX P P P", "P P P P", "2D P 3C 3C X"):
            for place in range(len(text) + 1):
                for byte in range(256):
                    self.check(text[:place] + chr(byte) + text[place:])
                    self.check(text[:place] + chr(byte) + text[place + 1:])


class WhatIsHandedInAndBack(Manners, unittest.TestCase):
    function = staticmethod(calls)
    granted = (
        (0, ""), (3, ""), (1, "P P P P"), (2, "1C P P P"), (0, "1C X XX P P P"), (0, "1C"), (1, "P P P 1C P 7N"),
        (3, "1S 2S 3S 4S P P P"),
    )
    refused = (
        (-1, ""), (4, "P P P P"), (LOWEST, "?"), (HIGHEST, " "), (0, " "), (0, "?"), (1, "P "), (2, "P P P P P"),
        (3, "X"), (0, "1C 1C"), (0, "P" * 300), (0, "P " * 150),
    )

    def test_lengths(self):
        for arguments in self.granted:
            answer = self.ask(arguments)
            self.assertEqual(len(answer), 5 if answer[0] == 2 else 1)


if __name__ == "__main__":
    unittest.main()
