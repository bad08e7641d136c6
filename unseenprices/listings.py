"""Listings: what a desk tells, in lines of text."""

from unseenprices.rules import all_things


def line_of(desk, thing):
    """Return the line of the thing: its number, its bounds and its verdict, in columns."""
    verdict = desk.verdict_of(thing)
    low, high = desk.notes.lows[thing], desk.notes.highs[thing]
    prices = f"{low}" if low == high else f"{low} to {high}"
    return f"{thing:>2}  {prices:<17}  {verdict}"


def spaced(words):
    """Return the words with one space between each two of them, or "-" if there are none."""
    return " ".join([f"{word}" for word in words]) if words else "-"


def last_line(desk):
    """Return the line that tells the sure lot, or how many things are unsettled."""
    lot = desk.sure_now()
    return f"unsettled: {len(list(desk))}" if lot is None else f"sure lot: {spaced(lot)}"


def listing(desk):
    """Return the lines of all things, of the comparisons, of the loss and of the sure lot, as one string."""
    rows = [line_of(desk, thing) for thing in all_things(desk.rule)]
    pairs = [f"{one}<{other}" for one, other in desk.notes.pairs]
    return "\n".join([*rows, f"comparisons: {spaced(pairs)}", f"lost: {spaced(desk.loss)}", last_line(desk)])
