"""Looks for best play: what a side takes when all cards are seen and nobody errs, and by which cards."""

from fourhands.basics import NO_TRUMP, PLAYERS, side_of
from fourhands.playing import start_of_play


class Trial:
    """A position whose cards are tried one by one, until it's known whether side 0 reaches its goal."""

    def __init__(self, position, verdict):
        self.position = position
        self.verdict = verdict
        self.untried = []
        if verdict is None:
            # The last one is tried first: high cards settle most positions soonest.
            self.untried = sorted(position.choices())

    def next_position(self):
        """Give back the position behind the next card that's to be tried."""
        return self.position.after(self.untried.pop())

    def hear(self, verdict):
        """Take in what a card that was tried leads to."""
        wanted = side_of(self.position.turn) == 0
        if verdict == wanted or len(self.untried) == 0:
            self.verdict = verdict


class Search:
    """Looks for best play of a deal with one trump, and keeps what it has found out."""

    def __init__(self, tricks):
        self.tricks = tricks
        self.verdicts = {}

    def trial_of(self, position, goal):
        """Give back the trial of position, with its verdict if that's known already."""
        if position.taken[0] >= goal:
            return Trial(position, True)
        if position.taken[1] > self.tricks - goal:
            return Trial(position, False)
        if position.laid > 0:
            return Trial(position, None)
        return Trial(position, self.verdicts.get(key_of(position, goal)))

    def keep(self, trial, goal):
        """Keep what was found out; only between tricks is a position likely to come again."""
        if trial.position.laid == 0:
            self.verdicts[key_of(trial.position, goal)] = trial.verdict

    def reaches(self, position, goal):
        """Tell whether side 0 takes goal tricks or more in all from position on, when nobody errs."""
        first = self.trial_of(position, goal)
        path = [first]
        while len(path) > 0:
            trial = path[-1]
            if trial.verdict is None:
                path.append(self.trial_of(trial.next_position(), goal))
            else:
                self.keep(trial, goal)
                path.pop()
                if len(path) > 0:
                    path[-1].hear(trial.verdict)
        return first.verdict

    def worth(self, position):
        """Give back how many tricks side 0 takes in all from position on, when nobody errs."""
        goal = position.taken[0]
        while self.reaches(position, goal + 1):
            goal += 1
        return goal

    def leaders_worth(self, start):
        """Give back how many tricks the leader's side takes from start on, when nobody errs."""
        if side_of(start.turn) == 0:
            return self.worth(start)
        return self.tricks - self.worth(start)

    def best_card(self, position):
        """Give back the highest card that brings the side of who's to play as many tricks as any."""
        worth = self.worth(position)
        return max([card for card in position.choices() if self.worth(position.after(card)) == worth])

    def best_line(self, position):
        """List the cards of best play from position on."""
        cards = []
        while not position.is_over():
            card = self.best_card(position)
            cards.append(card)
            position = position.after(card)
        return cards


def key_of(position, goal):
    """Give back what a verdict hangs on between tricks: the cards left, who leads, and what side 0 still needs."""
    return (position.hands, position.turn, goal - position.taken[0])


def best_play(trump, leader, hands):
    """List the worth of leader's side, then the cards of best play."""
    search = Search(len(hands[0]))
    start = start_of_play(trump, leader, hands)
    return [search.leaders_worth(start)] + search.best_line(start)


def all_worths(hands):
    """List for each trump, and in it for each leader, the worth of leader's side."""
    worths = []
    for trump in range(NO_TRUMP + 1):
        # What is found out hangs on the trump, but not on who led first.
        search = Search(len(hands[0]))
        for leader in range(PLAYERS):
            worths.append(search.leaders_worth(start_of_play(trump, leader, hands)))
    return worths
