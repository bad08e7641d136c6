"""Runs: asking step by step until a lot is sure, at most twice as often as is needed; the notes are plain."""

from unseenprices.dues import pressing
from unseenprices.errors import Closed, IsSeen
from unseenprices.notes import agreeing_world
from unseenprices.pairs import step
from unseenprices.sets import minus, thing_of
from unseenprices.surelots import sure_lot


class Run:
    """A run that is put step by step; `bound` counts the steps that every paper has a thing of."""

    def __init__(self, rule, notes):
        self._step = step(rule, notes)
        # Kept ahead of all questions, because a property must not change the ranks that the rule keeps.
        self._sure = self._step == ()
        self._missing = ()
        self.rule = rule
        self.notes = notes
        self.asked = ()
        self.steps = ()
        self.bound = 0

    @property
    def sure(self):
        """Whether a lot is sure."""
        return self._sure

    def __iter__(self):
        return iter(self.steps)

    def next_step(self):
        """Return the missing thing of a step of two or else the step at the notes, a set."""
        return self._missing if self._missing else self._step

    def put(self, thing, price):
        """Ask the thing; the price is the answer."""
        held = thing_of(self.notes.size, thing)
        if self.notes.seen(held):
            raise IsSeen(held)
        more = self.notes.ask(held, price)
        if held in self._missing:
            self._missing = ()
        else:
            self.join_step(held)
        self.asked = (*self.asked, held)
        self.notes = more
        self._step = step(self.rule, more)
        self._sure = self._step == ()

    def join_step(self, thing):
        """Add the step with which the thing, which is not missing, is asked."""
        if self._missing == () and thing in self._step:
            self._missing = minus(self._step, (thing,))
            self.steps = (*self.steps, self._step)
            self.bound += 1
            return
        self.steps = (*self.steps, (thing,))
        if thing in pressing(self.rule, self.notes):
            self.bound += 1

    def finish(self, world):
        """Put all that is still to be asked, with the prices of the world; return the sure lot."""
        prices = agreeing_world(self.notes, world)
        while self.next_step():
            thing = self.next_step()[0]
            self.put(thing, prices[thing])
        return self.lot_now()

    def ahead(self, world):
        """Return the tuple of the steps that finish would add; nothing is changed."""
        return foreseen(self.kept(), world)

    def lot_now(self):
        """Return the sure lot, or None."""
        return sure_lot(self.rule, self.notes)

    def kept(self):
        """Return a new Kept of this run."""
        return Kept(self)


class Kept:
    """Behind its block the run is as it was when the block was entered; it is entered once."""

    def __init__(self, run):
        self.run = run
        self._entered = False
        self._ended = False

    @property
    def ended(self):
        """Whether the block has been left."""
        return self._ended

    def __enter__(self):
        if self._entered:
            raise Closed()
        self._entered = True
        self._notes = self.run.notes
        self._asked = self.run.asked
        self._steps = self.run.steps
        self._bound = self.run.bound
        self._step = self.run._step
        self._sure = self.run._sure
        self._missing = self.run._missing
        return self.run

    def __exit__(self, kind, value, trace):
        self.run.notes = self._notes
        self.run.asked = self._asked
        self.run.steps = self._steps
        self.run.bound = self._bound
        self.run._step = self._step
        self.run._sure = self._sure
        self.run._missing = self._missing
        self._ended = True


def foreseen(kept, world):
    """Return the tuple of the steps that finish adds; the run is as it was again behind that."""
    with kept as run:
        many = len(run.steps)
        run.finish(world)
        added = run.steps[many:]
    return added
