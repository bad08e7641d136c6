"""Safe papers: sets of things behind whose asking a lot is safe in a told world; the notes are plain."""

from unseenprices.choosing import dearer
from unseenprices.critical import critical_price
from unseenprices.equals import safe_lot, unsafe_exchanges
from unseenprices.matching import greatest_row
from unseenprices.notes import agreeing_world, check_plain_for
from unseenprices.papers import Told, without_forced
from unseenprices.rules import all_things, basis, check_lot
from unseenprices.sets import set_of


class SafeTold(Told):
    """A told world for safe papers; its lot is the one best to show."""

    def __init__(self, rule, notes, world):
        super().__init__(rule, notes, world)
        criticals = [critical_price(rule, self.world, thing) for thing in all_things(rule)]
        self.sharp = sharp_things(notes, criticals)
        self.far = far_pairs(notes, self.world, criticals, self.sharp, rule.exchanges(self.lot))
        self.lot = best_to_show(rule, notes, self.world, criticals)
        loose = unsafe_exchanges(rule, notes, self.lot)
        self.settle(forced_for(notes, self.world, loose), loose)

    def shows(self, things):
        """Return whether some lot is safe behind asking the set."""
        held = set_of(self.rule.size, things)
        return safe_lot(self.rule, self.notes.after(held, self.world)) is not None


def sharp_things(notes, criticals):
    """Return the set of the things whose critical price is neither their low nor their high, but between them."""
    found = []
    for thing in notes.unseen():
        critical = criticals[thing]
        if critical is not None and notes.lows[thing] < critical < notes.highs[thing]:
            found.append(thing)
    return tuple(found)


def far_pairs(notes, world, criticals, sharp, exchanges):
    """Return the tuple of the far pairs among the exchanges of the lot of the world."""
    fitting = [thing for thing in notes.unseen() if thing not in sharp]
    # A thing of an exchange is neither firm nor dead, so its critical price is a price.
    return tuple([
        (e, f) for e, f in exchanges
        if e in fitting and f in fitting and notes.highs[e] > notes.lows[f]
        and world[e] < criticals[e] and world[f] > criticals[f]
    ])


def rank_of_showing(notes, world, criticals, thing):
    """Return 0 for a topped thing, 2 for a grounded one, 1 for every other one."""
    if notes.seen(thing) or world[thing] != criticals[thing]:
        return 1
    if world[thing] == notes.highs[thing]:
        return 0
    return 2 if world[thing] == notes.lows[thing] else 1


def best_to_show(rule, notes, world, criticals):
    """Return the cheapest lot that is safe behind the fewest asks."""
    keys = [(world[x], rank_of_showing(notes, world, criticals, x), x) for x in all_things(rule)]
    return basis(rule, [thing for _, _, thing in sorted(keys)])


def forced_for(notes, world, loose):
    """Return the set of the things that the loose exchanges of a cheapest lot force for this lot."""
    fronts = [e for e, f in loose if notes.highs[e] > world[f]]
    backs = [f for e, f in loose if notes.lows[f] < world[e]]
    return tuple(sorted(set(fronts + backs)))


def fewest_for(rule, notes, world, lot):
    """Return the number of the fewest asks behind which the lot is safe, or None if it is not cheapest in the world."""
    check_plain_for(rule, notes)
    prices = agreeing_world(notes, world)
    held = check_lot(rule, lot)
    if dearer(rule, held, prices) is not None:
        return None
    loose = unsafe_exchanges(rule, notes, held)
    forced = forced_for(notes, prices, loose)
    return len(forced) + len(greatest_row(without_forced(forced, loose)))
