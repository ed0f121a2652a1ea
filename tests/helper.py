"""What several files of tests share."""

import contextlib
import io

LOWEST = -2147483648
HIGHEST = 2147483647

LETTERS = "23456789TJQKA"

# Texts of at most 35 bytes that are no deals, and what they are refused by.
DEAL_ERRORS = (
    ("", -100),
    (" ", -100),
    ("x", -100),
    ("A.K", -103),
    ("AA... .A.. ..A. ...A", -101),
    ("KA... .A.. ..A. ...A", -101),
    ("A.... .A.. ..A. ...A", -104),
    ("A.. .A.. ..A. ...A", -103),
    ("A... .A.. ..A.", -114),
    ("A... .A.. ..A. ..A", -118),
    ("A... .A.. ..A. ...A ", -119),
    ("A... .A.. ..A. ...A ...A", -119),
    ("A... A... A... A...?", -119),
    ("A... .A.. ..A. ...a", -118),
    ("... ... ... ...", -5),
    ("AK... .A.. ..A. ...A", -5),
    ("A... .A.. ..A. ...", -5),
    ("A... A... A... AK...", -5),
    ("A... .A.. ..A. A...", -6),
    ("AK... QJ... T9... 98...", -6),
)


def bytes_of(text):
    return list(text.encode("latin-1"))


def hands_of(text):
    """The numbers of the cards of each hand of a deal without an error."""
    return [[13 * suit + LETTERS.index(letter)
             for suit, letters in enumerate(reversed(hand.split("."))) for letter in letters]
            for hand in text.split(" ")]


def deal_of(hands):
    """The text of a deal of hands."""
    told = []
    for hand in hands:
        suits = [[number % 13 for number in sorted(hand, reverse=True) if number // 13 == suit] for suit in (3, 2, 1, 0)]
        told.append(".".join("".join(LETTERS[rank] for rank in ranks) for ranks in suits))
    return " ".join(told)


def random_deal(chance, count, pack=range(52)):
    """The text of a deal of count cards each out of pack."""
    dealt = chance.sample(list(pack), 4 * count)
    return deal_of([dealt[start:start + count] for start in range(0, 4 * count, count)])


def taker(trump, leader, trick):
    """Who has a trick of four cards, told by holding them all against one another at once."""
    led = trick[0] // 13

    def strength(number):
        suit = number // 13
        return (suit == trump, suit == led, number)

    return (leader + trick.index(max(trick, key=strength))) % 4


class AllPlays:
    """Another way of reckoning best play: every card that may be played is tried, and nothing is left out."""

    def __init__(self, trump, text):
        self.trump = trump
        self.hands = hands_of(text)
        self.known = {}

    def allowed(self, leader, left, trick):
        turn = (leader + len(trick)) % 4
        held = [number for number in self.hands[turn] if number in left]
        following = [number for number in held if trick and number // 13 == trick[0] // 13]
        return following or held

    def tricks(self, leader, left, trick=()):
        """How many of the tricks to come go to players 0 and 2."""
        if not left and not trick:
            return 0
        if len(trick) == 4:
            winner = taker(self.trump, leader, trick)
            return (winner + 1) % 2 + self.tricks(winner, left)
        key = (leader, left, trick)
        if key not in self.known:
            choose = (max, min)[(leader + len(trick)) % 2]
            self.known[key] = choose(self.tricks(leader, left - {number}, trick + (number,))
                                     for number in self.allowed(leader, left, trick))
        return self.known[key]

    def all_cards(self):
        return frozenset(number for hand in self.hands for number in hand)

    def worth(self, leader):
        """The worth of leader's side."""
        tricks = self.tricks(leader, self.all_cards())
        return tricks if leader % 2 == 0 else len(self.hands[0]) - tricks

    def best(self, leader):
        """What best is to answer."""
        answer = [self.worth(leader)]
        left = self.all_cards()
        trick = ()
        while left:
            worth = self.tricks(leader, left, trick)
            card = max(number for number in self.allowed(leader, left, trick)
                       if self.tricks(leader, left - {number}, trick + (number,)) == worth)
            answer.append(card)
            left -= {card}
            trick += (card,)
            if len(trick) == 4:
                leader = taker(self.trump, leader, trick)
                trick = ()
        return answer


class Untouchable(list):
    """A list that can be read alone."""

    def refuse(self, *given, **named):
        raise AssertionError("the list that was handed in is changed")

    append = clear = extend = insert = pop = remove = reverse = sort = refuse
    __setitem__ = __delitem__ = __iadd__ = __imul__ = refuse


def handed(arguments, make=list):
    """The arguments as they are handed in: a text as its bytes, each list made by make."""
    given = []
    for argument in arguments:
        if isinstance(argument, str):
            argument = bytes_of(argument)
        given.append(make(argument) if isinstance(argument, list) else argument)
    return given


class Manners:
    """What the document asks of every function.

    A class of tests beside it names the function in `function` and tuples of arguments in `granted` and `refused`.
    """

    def ask(self, arguments):
        return self.function(*handed(arguments))

    def asked(self):
        return list(self.granted) + list(self.refused)

    def test_refusal_is_a_list_of_one_number(self):
        for arguments in self.refused:
            with self.subTest(arguments=arguments):
                answer = self.ask(arguments)
                self.assertEqual(len(answer), 1)
                self.assertLess(answer[0], 0)

    def test_kinds(self):
        for arguments in self.asked():
            answer = self.ask(arguments)
            self.assertIs(type(answer), list)
            for number in answer:
                self.assertIs(type(number), int)

    def test_what_is_handed_in_is_as_it_was(self):
        for arguments in self.asked():
            given = handed(arguments)
            self.function(*given)
            self.assertEqual(given, handed(arguments))

    def test_what_is_handed_in_is_not_changed_for_a_while_either(self):
        for arguments in self.asked():
            self.assertEqual(self.function(*handed(arguments, Untouchable)), self.ask(arguments))

    def test_what_is_handed_in_is_not_handed_back(self):
        for arguments in self.asked():
            given = handed(arguments)
            answer = self.function(*given)
            self.assertFalse([argument for argument in given if argument is answer])

    def test_second_call_answers_the_same(self):
        for arguments in self.asked():
            first = self.ask(arguments)
            kept = list(first)
            for between in self.asked()[:12]:
                self.ask(between)
            second = self.ask(arguments)
            self.assertEqual(second, kept)
            second.append(7)
            second[0] = 99
            self.assertEqual(first, kept)
            self.assertEqual(self.ask(arguments), kept)

    def test_nothing_is_printed(self):
        printed = io.StringIO()
        with contextlib.redirect_stdout(printed), contextlib.redirect_stderr(printed):
            for arguments in self.asked():
                self.ask(arguments)
        self.assertEqual(printed.getvalue(), "")
