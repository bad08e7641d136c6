"""All modules on the same rule, notes and world: later calls leave the answers of earlier ones as they were."""

import random
import unittest

from tests.kinds import SMALL_RULES
from tests.knowing import some_known
from tests.meaning import raised
from unseenprices.blows import bears, is_blow, lean_blows, least_blow, missing, strength
from unseenprices.bounds import bounds
from unseenprices.chains import fewest_along, lot_along, other_order, shown_along
from unseenprices.champions import comparing
from unseenprices.choosing import critical_key, dearer, lot_of, moved, out_of_order, price_of
from unseenprices.comparing import behind, forward, pairs_of, ring_in, row_between
from unseenprices.connected import joined, lacks, part_of, parts
from unseenprices.counting import Firsts
from unseenprices.covering import covers, few_outside, fullest, lot_prices, lots_apart, most_apart
from unseenprices.critical import (
    counting_verdict, counts_in, critical_price, critical_reach, known, worth, worth_reach,
)
from unseenprices.depths import depth, depth_ends, depth_loss, stock
from unseenprices.desks import Desk
from unseenprices.dues import ask_verdict, due_world, forced_things, is_due, near, pressing, spare_world, useful
from unseenprices.equals import four, safe_lot, unsafe
from unseenprices.fitting import hindered, world_for
from unseenprices.foes import Foe, SomeFoe, TwiceFoe, UsefulFoe
from unseenprices.judging import verdict, verdicts, world_with, world_without
from unseenprices.kernels import kernel
from unseenprices.lazy import lazy_above, lazy_below, lot_and_price
from unseenprices.levels import Level
from unseenprices.listings import line_of, listing
from unseenprices.losscosts import loss_cost, loss_reach, loss_worlds
from unseenprices.many import Many, greatest, loosest
from unseenprices.matching import greatest_row, lean_covers, least_cover
from unseenprices.middles import calmest, middle_lot
from unseenprices.nets import Net, pieces, ring
from unseenprices.notes import agreeing_world
from unseenprices.pairs import high_pair, low_pair, step
from unseenprices.papers import Told
from unseenprices.parting import parted, too_full
from unseenprices.reaches import between_lots, cheapest, price_reach, world_at
from unseenprices.regrets import gaps, regret, regret_reach, regret_worlds, swap_row
from unseenprices.rules import basis, check_lot, check_thing, swaps
from unseenprices.runs import Run, foreseen
from unseenprices.safepapers import SafeTold, fewest_for
from unseenprices.sets import both, common, minus, set_of, subsets, turned_rest, turned_set, world_of
from unseenprices.shapes import Cut, Drawn, Less
from unseenprices.standins import comes, lot_left, may_come, must_come, trail
from unseenprices.stretches import stretches_of
from unseenprices.sums import Sum
from unseenprices.surelots import doubt, sure_lot
from unseenprices.trials import Trial, tried
from unseenprices.turned import Turned
from unseenprices.ways import cut, ways
from unseenprices.worlds import (
    before, climb, count_worlds, extreme, order_of, turned_world, world_along, worlds,
)


def kernel_of(rule, notes):
    smaller, ins, outs = kernel(rule, notes)
    return (smaller.lots(), ins, outs)


def told_of(told):
    """Return all that a told world shows."""
    return (
        told.world, told.lot, told.forced, told.pairs, told.row, told.paper, told.fewest, list(told), told.shows(()),
        told.shows(told.paper), told.two_worlds(()), told.lean_papers(), told.doubled(2), 0 in told,
    )


def safe_told_of(told):
    return (told.lot, told.forced, told.pairs, told.sharp, told.far, told.row, told.paper, told.fewest, told.shows(()))


def run_of(rule, notes, world):
    """Return what a run shows in a world, foreseen, kept and finished."""
    run = Run(rule, notes)
    found = [run.sure, run.next_step(), run.ahead(world), foreseen(run.kept(), world), run.steps]
    return found + [run.finish(world), run.asked, list(run), run.bound, run.lot_now(), run.notes]


def foes_of(rule, notes):
    """Return what the foes answer for all things, descending, and what they show then."""
    found = []
    for foe in (Foe(rule, notes), UsefulFoe(rule, notes), TwiceFoe(2), SomeFoe(3)):
        found += [foe.whole(), [foe(x) for x in range(foe.rule.size)[::-1]], foe.answers(), foe.whole()]
    return found


def desk_of(rule, notes, world):
    """Return what a desk shows behind some deeds, within a trial, and behind all of it."""
    desk = Desk(rule, notes)
    found = [desk.lose(0), listing(desk), desk.ask(0, world[0]), desk.regain(0), line_of(desk, 0), len(desk)]
    found += [tried(Trial(desk), [("lose", 1), ("back",)]), desk.sure_now(), list(desk), 0 in desk, desk.loss]
    if notes.plain:
        found += [desk.step_now(), desk.safe_now(), desk.fewest_in(world), desk.finish(world), len(desk)]
    return found + [desk.back(), listing(desk), desk.left.lots()]


def of_rules(rule, world):
    """Return calls that need a rule and a world, each as a function without arguments."""
    things, lot = tuple(range(0, rule.size, 2)), lot_of(rule, world)
    order, last = order_of(world), rule.size - 1
    other = (*world[:last], 10 ** 6 - world[last])
    rows = [
        (check_lot, rule, lot), (check_thing, rule, last), (basis, rule, order),
        (swaps, rule, lot, basis(rule, order[::-1])),
        (rule.lots,), (rule.dead,), (rule.firm,), (rule.rank, things), (rule.span, things), (rule.is_free, things),
        (rule.is_lot, lot), (rule.exchanges, lot), (rule.circuit, lot, last), (rule.blow_of, lot, last), (parts, rule),
        (part_of, rule, 0), (joined, rule, 0, last), (lacks, rule, things), (parted, rule, things, 2),
        (too_full, rule, things, 1), (greatest, Many(rule, 2), things), (loosest, Many(rule, 2), things),
        (lots_apart, rule, 2), (few_outside, rule, 2), (most_apart, rule), (covers, rule), (fullest, rule),
        (lot_prices, rule, world, 3), (lot_of, rule, world), (out_of_order, rule, lot, world),
        (dearer, rule, lot, world), (critical_key, rule, world, 0), (moved, rule, world, other),
        (cheapest, rule, world),
        (critical_price, rule, world, 0), (worth, rule, world, last), (lot_along, rule, order),
        (shown_along, rule, order, [order[:2]]), (other_order, rule, order, []), (fewest_along, rule, order),
        (comparing, rule, order), (is_blow, rule, things), (missing, rule, things), (lean_blows, rule),
        (least_blow, rule), (strength, rule), (bears, rule, 1), (lot_left, rule, world, (0,)), (comes, rule, world, 0),
        (trail, rule, world, [0, last]), (loss_cost, rule, world, (0,)), (depth, rule, world, 0),
        (depth_loss, rule, world, last), (stock, rule, world, 2),
    ]
    shapes = (
        Less(rule, things), Drawn(rule, things), Cut(rule, 1), Turned(rule), Many(rule, 2), Level(rule, world),
        Sum(rule, Firsts(2, 1)),
    )
    return rows + [(shape.lots,) for shape in shapes] + [(strength, shape) for shape in shapes]


def of_notes(rule, notes, world):
    """Return calls that need notes as well."""
    lot, x = lot_of(rule, world), rule.size - 1
    rows = [
        (sure_lot, rule, notes), (doubt, rule, notes, lot), (world_for, rule, notes, lot), (hindered, rule, notes, lot),
        (verdict, rule, notes, x), (verdicts, rule, notes), (world_with, rule, notes, x),
        (world_without, rule, notes, x),
        (four, rule, notes, x), (safe_lot, rule, notes), (unsafe, rule, notes, lot), (kernel_of, rule, notes),
        (price_reach, rule, notes), (world_at, rule, notes, cheapest(rule, world)), (critical_reach, rule, notes, x),
        (between_lots, rule, notes, lot, lot), (worth_reach, rule, notes, x), (known, rule, notes),
        (counts_in, rule, notes, world, x), (counting_verdict, rule, notes, x), (regret, rule, notes, lot),
        (regret_worlds, rule, notes, lot), (regret_reach, rule, notes, lot), (gaps, rule, notes, lot),
        (swap_row, rule, notes, lot), (middle_lot, rule, notes), (calmest, rule, notes), (near, notes, x),
        (forced_things, rule, notes, world), (is_due, rule, notes, world, x), (pressing, rule, notes),
        (useful, rule, notes), (ask_verdict, rule, notes, x), (due_world, rule, notes, x),
        (spare_world, rule, notes, x),
        (lambda: told_of(Told(rule, notes, world)),), (lambda: safe_told_of(SafeTold(rule, notes, world)),),
        (fewest_for, rule, notes, world, lot), (low_pair, rule, notes), (high_pair, rule, notes), (step, rule, notes),
        (run_of, rule, notes, world), (lazy_below, rule, notes, world), (lazy_above, rule, notes, world),
        (lot_and_price, rule, notes, world), (foes_of, rule, notes), (may_come, rule, notes, x),
        (must_come, rule, notes, x), (loss_worlds, rule, notes, (0,)), (loss_reach, rule, notes, (0,)),
        (depth_ends, rule, notes, x), (desk_of, rule, notes, world),
    ]
    return rows + [
        (notes.must_precede, x), (notes.may_precede, x), (notes.earliest, x), (notes.latest, x), (notes.unseen,),
        (notes.after, (0,), world), (notes.agrees, world), (agreeing_world, notes, world), (count_worlds, notes),
        (lambda: list(worlds(notes)),), (climb, notes, notes.lows, world), (extreme, notes, (0,)), (lambda: ~notes,),
        (lambda: notes + notes,), (lambda: (notes.lows, notes.highs, notes.pairs, notes.stretches),),
        (bounds, notes.stretches, notes.pairs),
    ]


def alone(size, world, pairs):
    """Return calls that need neither a rule nor notes."""
    things, net = tuple(range(0, size, 2)), Net(3, [(x % 3, (x + 1) % 3) for x in range(size)])
    row = [(x, x + 50) for x in things] + [(x, x + 51) for x in things[1:]]
    return [
        (set_of, size, things), (world_of, size, world), (both, things, (1,)), (common, things, (0,)),
        (minus, things, (0,)), (turned_set, size, things), (turned_rest, size, things),
        (lambda: list(subsets(things)),),
        (pieces, net, things), (ring, net, tuple(range(size))), (stretches_of, [(0, x) for x in world]),
        (pairs_of, size, pairs), (row_between, size, pairs, 0, size - 1), (ring_in, size, pairs),
        (behind, size, pairs, 0),
        (forward, size, pairs), (turned_world, world), (before, world, 0), (order_of, world),
        (world_along, order_of(world)), (price_of, world, things), (greatest_row, row), (least_cover, row),
        (lean_covers, row), (ways, net, things, 0), (cut, net, things, 0),
    ]


def answer(row):
    """Return what a call returns, or the error that it raises."""
    told = raised(*row)
    return row[0](*row[1:]) if told is None else told


class TogetherTest(unittest.TestCase):
    def rows(self):
        """Return for some rules of every kind, with plain notes and with others, all calls on the same objects."""
        chance = random.Random(14)
        fitting = [(rule, meaning) for rule, meaning in SMALL_RULES if 2 <= meaning.size <= 4 and len(meaning.lots) > 1]
        for place, (rule, meaning) in enumerate(fitting[::4]):
            known_notes = some_known(chance, meaning.size, (0, 0, 2)[place % 3], 2)
            notes, world = known_notes.notes, chance.choice(known_notes.worlds)
            yield of_rules(rule, world) + of_notes(rule, notes, world) + alone(meaning.size, world, notes.pairs)

    def test_later_calls_change_nothing(self):
        chance = random.Random(15)
        many = 0
        for rows in self.rows():
            first = [answer(row) for row in rows]
            order = chance.sample(range(len(rows)), len(rows))
            second = {place: answer(rows[place]) for place in order}
            for place, told in enumerate(first):
                self.assertEqual(second[place], told, rows[place][0])
            many += 1
        self.assertGreater(many, 30)

    def test_lists_that_are_handed_out_may_be_changed(self):
        for rows in list(self.rows())[::5]:
            for row in rows:
                told = answer(row)
                if isinstance(told, list):
                    before = list(told)
                    told.append("more")
                    self.assertEqual(answer(row), before)
                    told.clear()
                    self.assertEqual(answer(row), before)

    def test_what_they_tell_of_one_world(self):
        # A desk at which all is asked, the lot left, costs, stand-ins, depths and papers fit together.
        chance = random.Random(16)
        fitting = [(rule, meaning) for rule, meaning in SMALL_RULES if 2 <= meaning.size <= 4 and len(meaning.lots) > 1]
        for rule, meaning in fitting[::2]:
            found = some_known(chance, meaning.size, 0, 2)
            notes, world = found.notes, chance.choice(found.worlds)
            lot = lot_of(rule, world)
            self.assertEqual([Told(rule, notes, world).lot, Run(rule, notes).finish(world)], [lot, lot])
            self.assertEqual(stock(rule, world, 1), lot)
            for x in set_of(meaning.size, lot):
                if not is_blow(rule, (x,)):
                    desk = Desk(rule, notes)
                    desk.lose(x)
                    coming = comes(rule, world, x)
                    self.assertEqual(desk.finish(world), lot_left(rule, world, (x,)))
                    self.assertEqual(desk.sure_now(), both(minus(lot, (x,)), (coming,)))
                    self.assertEqual(loss_cost(rule, world, (x,)), world[coming] - world[x])
                    self.assertEqual([trail(rule, world, [x]), depth(rule, world, coming)], [[(x, coming)], 1])
                    self.assertIn(coming, stock(rule, world, 2))
                    self.assertTrue(x not in desk and coming in desk)

    def test_errors_are_raised_again(self):
        for rows in list(self.rows())[::5]:
            for row in rows:
                self.assertEqual(raised(*row), raised(*row))
