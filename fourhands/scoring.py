"""Reckons the points of a contract by the tricks that its declarer's side took."""

from fourhands.basics import NO_TRUMP

# A tuple of two holds what counts not vulnerable, then vulnerable; one of three what counts by doubled.
BOOK = 6
TRICK_POINTS = (20, 20, 30, 30, 30)
NO_TRUMP_POINTS = 10
TIMES_BY_DOUBLED = (1, 2, 4)

ENOUGH_FOR_GAME = 100
PART_BONUS = 50
GAME_BONUS = (300, 500)
SLAM_BONUS = {6: (500, 750), 7: (1000, 1500)}
NO_SLAM = (0, 0)
DOUBLED_BONUS = (0, 50, 100)

DOUBLED_TRICK_ABOVE = (100, 200)
TRICK_LACKING = (50, 100)
FIRST_DOUBLED_LACKING = ((100, 200, 200), (200,))
LATER_DOUBLED_LACKING = 300


def points_of(level, strain, doubled, vulnerable, tricks):
    """Give back what the declarer's side gets; below 0 is what the others get."""
    above = tricks - level - BOOK
    if above < 0:
        return -points_lacking(-above, doubled, vulnerable)
    bid = points_bid(level, strain, doubled)
    return bid + bonus(bid, level, doubled, vulnerable) + points_above(above, strain, doubled, vulnerable)


def points_bid(level, strain, doubled):
    """Give back what the tricks that were bid count."""
    counted = level * TRICK_POINTS[strain]
    if strain == NO_TRUMP:
        counted += NO_TRUMP_POINTS
    return counted * TIMES_BY_DOUBLED[doubled]


def bonus(bid, level, doubled, vulnerable):
    """Give back what is added once to bid, the points of the tricks that were bid."""
    added = PART_BONUS if bid < ENOUGH_FOR_GAME else GAME_BONUS[vulnerable]
    return added + SLAM_BONUS.get(level, NO_SLAM)[vulnerable] + DOUBLED_BONUS[doubled]


def points_above(above, strain, doubled, vulnerable):
    """Give back what the tricks above those that were bid count."""
    if doubled == 0:
        return above * TRICK_POINTS[strain]
    # Doubled is 1, redoubled 2: redoubled counts twice what doubled does.
    return above * DOUBLED_TRICK_ABOVE[vulnerable] * doubled


def points_lacking(lacking, doubled, vulnerable):
    """Give back what the tricks that are lacking count for the others."""
    if doubled == 0:
        return lacking * TRICK_LACKING[vulnerable]
    first = FIRST_DOUBLED_LACKING[vulnerable][:lacking]
    later = lacking - len(first)
    return (sum(first) + later * LATER_DOUBLED_LACKING) * doubled
