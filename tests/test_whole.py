"""What the document promises over the whole program."""

import inspect
import json
import os
import pathlib
import random
import subprocess
import sys
import unittest

from fourhands import desk
from helper import HIGHEST, LOWEST, Untouchable, handed

TOP = pathlib.Path(__file__).resolve().parent.parent

PARAMETERS = {
    "deal": ["text"],
    "calls": ["dealer", "text"],
    "points": ["level", "strain", "doubled", "vulnerable", "tricks"],
    "play": ["trump", "leader", "text", "cards"],
    "best": ["trump", "leader", "text"],
    "table": ["text"],
}

EXAMPLE = "A.K.. .A.2. 2..A. ..K.A"
FOUR_EACH = "AJ5.3.. K9.Q.J. Q.K2.A. 8.J.K.9"
FIVE_EACH = "AJ5.3..2 K9.Q.J.3 Q.K2.A.4 8.J.K.95"
MIXED = "AQT8.K975.J64.32 K97.AJ86.Q82.KT4 J65.QT3.AK75.A97 432.42.T93.QJ865"
SHARED = "A... A... A... A..."

QUESTIONS = (
    ("deal", EXAMPLE), ("deal", MIXED), ("deal", ""), ("deal", "A.K"), ("deal", SHARED), ("deal", "... ... ... ..."),
    ("calls", 0, ""), ("calls", 1, "P P P P"), ("calls", 2, "1S X XX 2C 2S X P P P"), ("calls", 3, "1C P"),
    ("calls", 0, "1C 1C"), ("calls", 0, "1C?"), ("calls", 4, "P"),
    ("points", 3, 4, 0, 0, 9), ("points", 7, 4, 2, 1, 0), ("points", 4, 3, 1, 1, 12), ("points", 0, 0, 0, 0, 0),
    ("play", 4, 0, EXAMPLE, []), ("play", 4, 0, EXAMPLE, [51, 38, 39, 12]), ("play", 2, 3, MIXED, [10, 0]),
    ("play", 4, 0, EXAMPLE, [51, 255]), ("play", 5, 0, EXAMPLE, []), ("play", 0, 0, SHARED, [51]),
    ("best", 4, 0, EXAMPLE), ("best", 0, 3, EXAMPLE), ("best", 3, 1, FOUR_EACH), ("best", 4, 2, FIVE_EACH),
    ("best", 1, 2, FIVE_EACH), ("best", -1, 0, EXAMPLE), ("best", 0, 0, SHARED),
    ("table", EXAMPLE), ("table", FOUR_EACH), ("table", FIVE_EACH), ("table", SHARED), ("table", ""),
)

ASK_ONE = """
import json, sys
from fourhands import desk
question = json.load(sys.stdin)
print(json.dumps(getattr(desk, question[0])(*question[1:])))
"""

WATCH = """
import json, sys
before = set(sys.modules)
from fourhands import desk
print(json.dumps(sorted(name for name in set(sys.modules) - before if name.split(".")[0] != "fourhands")))
questions = json.load(sys.stdin)
events = []
watching = False
def watch(event, arguments):
    if watching:
        events.append(event)
sys.addaudithook(watch)
watching = True
for question in questions:
    getattr(desk, question[0])(*question[1:])
watching = False
print(json.dumps(events))
"""


def ask(question, make=list):
    return getattr(desk, question[0])(*handed(question[1:], make))


def run(program, given):
    """What a Python of its own prints for program, line by line."""
    environment = dict(os.environ, PYTHONPATH=str(TOP), PYTHONDONTWRITEBYTECODE="1")
    done = subprocess.run([sys.executable, "-c", program], input=json.dumps(given), capture_output=True, text=True,
                          env=environment, check=True)
    return [json.loads(line) for line in done.stdout.splitlines()]


def as_handed(question):
    return [question[0]] + handed(question[1:])


class Interface(unittest.TestCase):
    def test_names_and_arguments(self):
        for name, parameters in PARAMETERS.items():
            told = inspect.signature(getattr(desk, name)).parameters
            self.assertEqual(list(told), parameters)
            for parameter in told.values():
                self.assertEqual(parameter.kind, inspect.Parameter.POSITIONAL_OR_KEYWORD)
                self.assertIs(parameter.default, inspect.Parameter.empty)

    def test_arguments_by_name(self):
        for question in QUESTIONS:
            named = dict(zip(PARAMETERS[question[0]], handed(question[1:])))
            self.assertEqual(getattr(desk, question[0])(**named), ask(question))


class OneBehindAnother(unittest.TestCase):
    @classmethod
    def setUpClass(cls):
        cls.first_answers = {number: run(ASK_ONE, as_handed(question))[0] for number, question in enumerate(QUESTIONS)}

    def in_order(self, numbers):
        for number in numbers:
            self.assertEqual(ask(QUESTIONS[number]), self.first_answers[number], QUESTIONS[number])

    def test_as_they_stand_and_back(self):
        self.in_order(range(len(QUESTIONS)))
        self.in_order(reversed(range(len(QUESTIONS))))

    def test_each_twice(self):
        self.in_order(number for number in range(len(QUESTIONS)) for _ in range(2))

    def test_orders_by_chance(self):
        chance = random.Random(1)
        for _ in range(12):
            numbers = list(range(len(QUESTIONS)))
            chance.shuffle(numbers)
            self.in_order(numbers)

    def test_each_behind_each(self):
        quick = [number for number, question in enumerate(QUESTIONS) if FIVE_EACH not in question]
        for first in quick:
            for second in quick:
                self.in_order((first, second))

    def test_answers_belong_to_who_asked(self):
        for number, question in enumerate(QUESTIONS):
            answer = ask(question)
            for place in range(len(answer)):
                answer[place] = 1234567
            answer.clear()
            self.assertEqual(ask(question), self.first_answers[number])

    def test_same_lists_handed_in_again(self):
        given = [as_handed(question) for question in QUESTIONS]
        for _ in range(2):
            for number, (name, *arguments) in enumerate(given):
                self.assertEqual(getattr(desk, name)(*arguments), self.first_answers[number])


class WhatIsHandedInAndBack(unittest.TestCase):
    def test_lists_are_read_alone(self):
        for question in QUESTIONS:
            self.assertEqual(ask(question, Untouchable), ask(question))

    def test_refusals_stand_alone(self):
        for question in QUESTIONS:
            answer = ask(question)
            self.assertIs(type(answer), list)
            self.assertEqual({type(number) for number in answer}, {int})
            if answer[0] < 0:
                self.assertEqual(len(answer), 1)

    def test_numbers_out_of_range(self):
        for far in (LOWEST, HIGHEST):
            self.assertEqual(ask(("calls", far, "")), [-2])
            self.assertEqual(ask(("points", far, far, far, far, far)), [-1000000])
            self.assertEqual(ask(("play", far, far, "", [])), [-2])
            self.assertEqual(ask(("best", far, far, "")), [-2])

    def test_nothing_is_imported_or_read(self):
        imported, events = run(WATCH, [as_handed(question) for question in QUESTIONS])
        self.assertEqual(imported, [])
        self.assertEqual(events, [])


class Depth(unittest.TestCase):
    def deepest(self, question):
        """How many calls stand within one another at the most while question is answered."""
        depth = deepest = 0

        def watch(frame, event, argument):
            nonlocal depth, deepest
            if event == "call":
                depth += 1
                deepest = max(deepest, depth)
            elif event == "return":
                depth -= 1

        before = sys.getprofile()
        sys.setprofile(watch)
        try:
            ask(question)
        finally:
            sys.setprofile(before)
        return deepest

    def test_longer_inputs_are_gone_through_by_loops(self):
        cards = [51, 44, 42, 39]
        self.assertEqual(self.deepest(("deal", EXAMPLE)), self.deepest(("deal", MIXED)))
        self.assertEqual(self.deepest(("calls", 0, "1C P P")), self.deepest(("calls", 0, "1C P P " + "1D P P 1H P P 1S")))
        self.assertEqual(self.deepest(("play", 4, 0, MIXED, cards[:2])), self.deepest(("play", 4, 0, MIXED, cards)))
        self.assertEqual(self.deepest(("best", 4, 0, EXAMPLE)), self.deepest(("best", 4, 0, FIVE_EACH)))
        self.assertEqual(self.deepest(("table", EXAMPLE)), self.deepest(("table", FIVE_EACH)))


if __name__ == "__main__":
    unittest.main()
