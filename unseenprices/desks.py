"""Desks: a rule with what is known and what is lost, kept while this changes."""

from unseenprices.equals import safe_lot
from unseenprices.errors import IsLost, NothingBack, NotLost
from unseenprices.judging import judged
from unseenprices.notes import check_sizes
from unseenprices.pairs import step
from unseenprices.papers import Told
from unseenprices.regrets import regret
from unseenprices.rules import all_things, check_thing
from unseenprices.runs import Run
from unseenprices.sets import both, minus
from unseenprices.shapes import Less
from unseenprices.surelots import sure_lot


class Stand:
    """What a desk tells between two deeds. It is never changed."""

    def __init__(self, rule, notes, loss):
        self.notes = notes
        self.loss = loss
        self.rest = Less(rule, loss)
        self.verdicts = tuple([
            "lost" if thing in loss else judged(self.rest, notes, thing)
            for thing in all_things(rule)
        ])
        self.unsettled = self.things_with(("unsettled",))
        self.possible = self.things_with(("in", "unsettled"))

    def things_with(self, words):
        """Return the set of the things that have one of these verdicts."""
        return tuple([thing for thing, word in enumerate(self.verdicts) if word in words])


class Desk:
    """A rule, notes and a loss. Deeds change the notes and the loss, and can be taken back.

    All verdicts are found with the deed: iterating and `in` must not change the ranks that a rule keeps.
    """

    def __init__(self, rule, notes):
        check_sizes(rule, notes)
        self.rule = rule
        self.notes = notes
        self.loss = ()
        self.stand = Stand(rule, notes, ())
        # The stands ahead of the deeds that have not been taken back.
        self.past = ()

    @property
    def left(self):
        """The rule left behind the loss."""
        return self.stand.rest

    def __len__(self):
        return len(self.past)

    def __iter__(self):
        return iter(self.stand.unsettled)

    def __contains__(self, thing):
        return isinstance(thing, int) and thing in self.stand.possible

    def turn_to(self, stand):
        """Put another stand in the place of the present one; return the news."""
        ahead = self.stand.verdicts
        self.stand = stand
        self.notes = stand.notes
        self.loss = stand.loss
        return tuple([thing for thing, word in enumerate(stand.verdicts) if word != ahead[thing]])

    def make_deed(self, notes, loss):
        """Put other notes and another loss in the place of the present ones; return the news."""
        ahead = self.stand
        news = self.turn_to(Stand(self.rule, notes, loss))
        self.past = (*self.past, ahead)
        return news

    def ask(self, thing, price):
        """Make the price of the thing known; return the news."""
        return self.make_deed(self.notes.ask(thing, price), self.loss)

    def narrow(self, thing, low, high):
        """Give the thing the told stretch (low, high), which lies in the one it had; return the news."""
        return self.make_deed(self.notes.narrow(thing, low, high), self.loss)

    def compare(self, one, other):
        """Add the comparison of the two things; return the news."""
        return self.make_deed(self.notes.compare(one, other), self.loss)

    def lose(self, thing):
        """Put the thing into the loss; return the news."""
        held = check_thing(self.rule, thing)
        if held in self.loss:
            raise IsLost(held)
        return self.make_deed(self.notes, both(self.loss, (held,)))

    def regain(self, thing):
        """Take the thing out of the loss; return the news."""
        held = check_thing(self.rule, thing)
        if held not in self.loss:
            raise NotLost(held)
        return self.make_deed(self.notes, minus(self.loss, (held,)))

    def back(self):
        """Take back the last deed that has not been taken back; return the news."""
        if len(self.past) == 0:
            raise NothingBack()
        stand = self.past[-1]
        self.past = self.past[:-1]
        return self.turn_to(stand)

    def verdict_of(self, thing):
        """Return "in", "out", "unsettled" or "lost"."""
        return self.stand.verdicts[check_thing(self.rule, thing)]

    def sure_now(self):
        """Return the lot that is sure for the rule left, or None."""
        return sure_lot(self.left, self.notes)

    def safe_now(self):
        """Return a lot that is safe for the rule left, or None; the notes are plain."""
        return safe_lot(self.left, self.notes)

    def step_now(self):
        """Return the step for the rule left, a set, () if there is none; the notes are plain."""
        return step(self.left, self.notes)

    def regret_of(self, lot):
        """Return the regret of a lot of the rule left; the notes are plain."""
        return regret(self.left, self.notes, lot)

    def fewest_in(self, world):
        """Return the number of things in a least paper in the world for the rule left; the notes are plain."""
        return Told(self.left, self.notes, world).fewest

    def finish(self, world):
        """Ask in the world until a lot is sure for the rule left; return this lot; the notes are plain."""
        run = Run(self.left, self.notes)
        lot = run.finish(world)
        for thing in run.asked:
            self.ask(thing, run.notes.lows[thing])
        return lot
