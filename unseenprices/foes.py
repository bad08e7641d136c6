"""Foes: they answer so that much must be asked; the notes are plain."""

from unseenprices.bounds import rise
from unseenprices.connected import parts
from unseenprices.counting import Firsts, Teams
from unseenprices.errors import BadNumber
from unseenprices.judging import is_in, is_out
from unseenprices.notes import Notes, check_plain_for
from unseenprices.rules import all_things, check_thing
from unseenprices.sets import is_count


class Foe:
    """The base of the foes: it answers with the highs. A class below defines another `reply`."""

    def __init__(self, rule, notes):
        check_plain_for(rule, notes)
        self.rule = rule
        self.notes = notes
        # The answer for each asked thing, in the order of asking.
        self._told = {}

    def reply(self, thing, told):
        """Return the answer for a thing that is not among the told answers, a dict; nothing is changed."""
        return self.notes.highs[thing]

    def __call__(self, thing):
        held = check_thing(self.rule, thing)
        if held not in self._told:
            self._told[held] = self.reply(held, self._told)
        return self._told[held]

    def answers(self):
        """Return the tuple with the answer for each asked thing and None for every other one."""
        return tuple([self._told.get(thing) for thing in all_things(self.rule)])

    def whole(self):
        """Return the world of the answers, with those that the other things would get, asked in ascending order."""
        told = dict(self._told)
        for thing in all_things(self.rule):
            if thing not in told:
                told[thing] = self.reply(thing, told)
        return tuple([told[thing] for thing in all_things(self.rule)])


class TwiceFoe(Foe):
    """The twice foe: every right plan asks all things, while half of them are enough."""

    def __init__(self, number):
        if not is_count(number) or number == 0:
            raise BadNumber("number")
        classes = [at for at in range(number) for _ in range(2)]
        stretches = [stretch for _ in range(number) for stretch in ((0, 2), (1, 3))]
        super().__init__(Teams(classes, [1 for _ in range(number)]), Notes(stretches))

    def reply(self, thing, told):
        """Return 2 or 1 for the first thing of a class, 0 or 3 for the second one."""
        if thing % 2 == 0:
            return 0 if thing + 1 in told else 2
        return 3 if thing - 1 in told else 1

    def counter(self):
        """Return the set of the things that are second in their classes if all are asked as for whole."""
        return tuple([thing for thing, price in enumerate(self.whole()) if price in (0, 3)])


class UsefulFoe(Foe):
    """The useful foe: where the parts have fitting ranks, every right plan asks all things that are not idle."""

    def __init__(self, rule, notes):
        super().__init__(rule, notes)
        self._parts = parts(rule)

    def reply(self, thing, told):
        """Return an answer that leaves the last two things of a part open as long as possible."""
        notes = answered(self.notes, told)
        part = [one for one in self._parts if thing in one][0]
        rank = self.rule.rank_of(part)
        if len(part) > 1 and rank == 1:
            other = other_left(notes, thing, [one for one in part if not is_out(self.rule, notes, one)])
            return notes.highs[thing] if other is None else least_between(notes, thing, other)
        if len(part) > 2 and rank == len(part) - 1:
            other = other_left(notes, thing, [one for one in part if not is_in(self.rule, notes, one)])
            return notes.lows[thing] if other is None else most_between(notes, thing, other)
        return notes.highs[thing]


class SomeFoe(Foe):
    """The some foe: all things but one must be asked, while one alone is enough."""

    def __init__(self, size):
        if not is_count(size) or size < 2:
            raise BadNumber("size")
        super().__init__(Firsts(size, 1), Notes([(0, 1) for _ in range(size)]))

    def reply(self, thing, told):
        """Return 0 for the last thing that is asked, 1 for the others."""
        return 0 if len(told) == self.rule.size - 1 else 1

    def counter(self):
        """Return the set of the thing that costs 0 in whole()."""
        return tuple([thing for thing, price in enumerate(self.whole()) if price == 0])


def answered(notes, told):
    """Return the notes behind the answers, a dict."""
    more = notes
    for thing, price in told.items():
        more = more.ask(thing, price)
    return more


def other_left(notes, thing, left):
    """Return the other thing if just the thing and one more are left and both are unseen, otherwise None."""
    if len(left) != 2 or thing not in left or notes.seen(left[0]) or notes.seen(left[1]):
        return None
    return left[1] if left[0] == thing else left[0]


def least_between(notes, thing, other):
    """Return the least price of the thing with which it may be before and may be behind the other one."""
    return max(notes.lows[thing], notes.lows[other] + rise(other, thing))


def most_between(notes, thing, other):
    """Return the greatest price of the thing with which it may be before and may be behind the other one."""
    return min(notes.highs[thing], notes.highs[other] - rise(thing, other))
