"""Promise 3, points, and what the document says ahead of it."""

import itertools
import unittest

from fourhands.desk import points
from helper import HIGHEST, LOWEST, Manners

# What contracts of levels 1 to 7 count that are just made: by strains, by doubled, not vulnerable and vulnerable.
CLUBS_DIAMONDS = (
    ((70, 90, 110, 130, 400, 920, 1440), (70, 90, 110, 130, 600, 1370, 2140)),
    ((140, 180, 470, 510, 550, 1090, 1630), (140, 180, 670, 710, 750, 1540, 2330)),
    ((230, 560, 640, 720, 800, 1380, 1960), (230, 760, 840, 920, 1000, 1830, 2660)),
)
HEARTS_SPADES = (
    ((80, 110, 140, 420, 450, 980, 1510), (80, 110, 140, 620, 650, 1430, 2210)),
    ((160, 470, 530, 590, 650, 1210, 1770), (160, 670, 730, 790, 850, 1660, 2470)),
    ((520, 640, 760, 880, 1000, 1620, 2240), (720, 840, 960, 1080, 1200, 2070, 2940)),
)
NO_TRUMP = (
    ((90, 120, 400, 430, 460, 990, 1520), (90, 120, 600, 630, 660, 1440, 2220)),
    ((180, 490, 550, 610, 670, 1230, 1790), (180, 690, 750, 810, 870, 1680, 2490)),
    ((560, 680, 800, 920, 1040, 1660, 2280), (760, 880, 1000, 1120, 1240, 2110, 2980)),
)
JUST_MADE = (CLUBS_DIAMONDS, CLUBS_DIAMONDS, HEARTS_SPADES, HEARTS_SPADES, NO_TRUMP)

# What each trick above counts: by strain, by doubled, not vulnerable and vulnerable.
DOUBLED_ABOVE = ((100, 200), (200, 400))
ABOVE = (((20, 20),) + DOUBLED_ABOVE,) * 2 + (((30, 30),) + DOUBLED_ABOVE,) * 3

# What 1 to 13 tricks lacking count in all: by doubled, not vulnerable and vulnerable.
LACKING = (
    ((50, 100, 150, 200, 250, 300, 350, 400, 450, 500, 550, 600, 650),
     (100, 200, 300, 400, 500, 600, 700, 800, 900, 1000, 1100, 1200, 1300)),
    ((100, 300, 500, 800, 1100, 1400, 1700, 2000, 2300, 2600, 2900, 3200, 3500),
     (200, 500, 800, 1100, 1400, 1700, 2000, 2300, 2600, 2900, 3200, 3500, 3800)),
    ((200, 600, 1000, 1600, 2200, 2800, 3400, 4000, 4600, 5200, 5800, 6400, 7000),
     (400, 1000, 1600, 2200, 2800, 3400, 4000, 4600, 5200, 5800, 6400, 7000, 7600)),
)

LEVELS = range(1, 8)
STRAINS = range(5)
DOUBLED = range(3)
VULNERABLE = range(2)


class Case(unittest.TestCase):
    def told(self, level, strain, doubled, vulnerable, tricks, number):
        with self.subTest(level=level, strain=strain, doubled=doubled, vulnerable=vulnerable, tricks=tricks):
            self.assertEqual(points(level, strain, doubled, vulnerable, tricks), [number])


class Made(Case):
    def test_just_made(self):
        for level, strain, doubled, vulnerable in itertools.product(LEVELS, STRAINS, DOUBLED, VULNERABLE):
            number = JUST_MADE[strain][doubled][vulnerable][level - 1]
            self.told(level, strain, doubled, vulnerable, level + 6, number)

    def test_tricks_above(self):
        for level, strain, doubled, vulnerable in itertools.product(LEVELS, STRAINS, DOUBLED, VULNERABLE):
            number = JUST_MADE[strain][doubled][vulnerable][level - 1]
            for tricks in range(level + 7, 14):
                number += ABOVE[strain][doubled][vulnerable]
                self.told(level, strain, doubled, vulnerable, tricks, number)

    def test_below_100_and_100(self):
        self.told(4, 0, 0, 0, 10, 80 + 50)
        self.told(5, 0, 0, 0, 11, 100 + 300)
        self.told(5, 1, 0, 1, 11, 100 + 500)
        self.told(3, 2, 0, 0, 9, 90 + 50)
        self.told(4, 2, 0, 0, 10, 120 + 300)
        self.told(2, 4, 0, 0, 8, 70 + 50)
        self.told(3, 4, 0, 0, 9, 100 + 300)
        self.told(3, 4, 0, 1, 9, 100 + 500)

    def test_100_by_doubling(self):
        self.told(2, 0, 1, 0, 8, 80 + 50 + 50)
        self.told(3, 0, 1, 0, 9, 120 + 300 + 50)
        self.told(1, 3, 1, 1, 7, 60 + 50 + 50)
        self.told(2, 3, 1, 1, 8, 120 + 500 + 50)
        self.told(1, 4, 1, 0, 7, 80 + 50 + 50)
        self.told(1, 0, 2, 1, 7, 80 + 50 + 100)
        self.told(2, 0, 2, 1, 8, 160 + 500 + 100)
        self.told(1, 2, 2, 0, 7, 120 + 300 + 100)
        self.told(1, 4, 2, 0, 7, 160 + 300 + 100)

    def test_tricks_above_do_not_make_it_100(self):
        self.told(1, 2, 0, 0, 13, 30 + 50 + 180)
        self.told(4, 1, 0, 1, 13, 80 + 50 + 60)
        self.told(2, 4, 0, 0, 9, 70 + 50 + 30)
        self.told(1, 1, 1, 1, 13, 40 + 50 + 50 + 1200)

    def test_levels_6_and_7(self):
        self.told(6, 3, 0, 0, 12, 180 + 300 + 500)
        self.told(6, 3, 0, 1, 12, 180 + 500 + 750)
        self.told(6, 3, 0, 0, 13, 180 + 300 + 500 + 30)
        self.told(7, 3, 0, 0, 13, 210 + 300 + 1000)
        self.told(7, 3, 0, 1, 13, 210 + 500 + 1500)
        self.told(5, 3, 0, 0, 13, 150 + 300 + 60)
        self.told(7, 4, 2, 1, 13, 880 + 500 + 1500 + 100)


class NotMade(Case):
    def test_each_number_of_tricks(self):
        for level, strain, doubled, vulnerable in itertools.product(LEVELS, STRAINS, DOUBLED, VULNERABLE):
            for tricks in range(level + 6):
                lacking = level + 6 - tricks
                self.told(level, strain, doubled, vulnerable, tricks, -LACKING[doubled][vulnerable][lacking - 1])

    def test_no_trick(self):
        self.told(1, 0, 0, 0, 0, -350)
        self.told(7, 4, 0, 0, 0, -650)
        self.told(7, 4, 2, 1, 0, -7600)

    def test_levels_6_and_7(self):
        self.told(6, 2, 0, 0, 11, -50)
        self.told(7, 2, 0, 1, 12, -100)
        self.told(7, 2, 1, 0, 9, -800)
        self.told(6, 2, 1, 1, 9, -800)


class OutOfRange(Case):
    GOOD = (3, 2, 1, 0, 9)
    OUTSIDE = ((0, 8), (-1, 5), (-1, 3), (-1, 2), (-1, 14))

    def test_each_number(self):
        for place, wrong in enumerate(self.OUTSIDE):
            for number in wrong + (LOWEST, LOWEST + 1, HIGHEST - 1, HIGHEST, -2, -1000000):
                given = list(self.GOOD)
                given[place] = number
                self.told(*given, -1000000)

    def test_several_numbers(self):
        for low in itertools.product((False, True), repeat=5):
            if any(low):
                self.told(*(LOWEST if wrong else good for wrong, good in zip(low, self.GOOD)), -1000000)
        self.told(LOWEST, LOWEST, HIGHEST, HIGHEST, LOWEST, -1000000)
        self.told(HIGHEST, HIGHEST, HIGHEST, HIGHEST, HIGHEST, -1000000)

    def test_edges_are_within(self):
        for given in itertools.product((1, 7), (0, 4), (0, 2), (0, 1), (0, 13)):
            self.assertNotEqual(points(*given), [-1000000])


class WhatIsHandedInAndBack(Manners, unittest.TestCase):
    function = staticmethod(points)
    granted = (
        (1, 0, 0, 0, 7), (3, 4, 0, 0, 9), (4, 3, 1, 1, 12), (7, 4, 2, 1, 13), (7, 4, 2, 1, 0), (1, 2, 0, 0, 6),
        (2, 1, 1, 0, 4), (5, 0, 2, 0, 11),
    )
    refused = (
        (0, 0, 0, 0, 7), (8, 0, 0, 0, 7), (1, 5, 0, 0, 7), (1, 0, 3, 0, 7), (1, 0, 0, 2, 7), (1, 0, 0, 0, 14),
        (LOWEST,) * 5, (HIGHEST,) * 5,
    )

    def test_one_number(self):
        for given in itertools.product(LEVELS, STRAINS, DOUBLED, VULNERABLE, range(14)):
            answer = points(*given)
            self.assertIs(type(answer), list)
            self.assertEqual([type(number) for number in answer], [int])


if __name__ == "__main__":
    unittest.main()
