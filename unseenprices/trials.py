"""Trials: what is done at a desk within their block is gone behind it."""

from unseenprices.errors import BadEntry, Closed

# The calls that a trial can make, each with the number of arguments that it takes.
CALLS = {"ask": 2, "narrow": 3, "compare": 2, "lose": 1, "regain": 1, "back": 0}


class Trial:
    """Behind its block the desk is as it was when the block was entered; it is entered once."""

    def __init__(self, desk):
        self.desk = desk
        self._entered = False
        self._ended = False

    @property
    def ended(self):
        """Whether the block has been left."""
        return self._ended

    def __enter__(self):
        if self._entered:
            raise Closed()
        self._entered = True
        self._stand = self.desk.stand
        self._past = self.desk.past
        return self.desk

    def __exit__(self, kind, value, trace):
        self.desk.stand = self._stand
        self.desk.past = self._past
        self.desk.notes = self._stand.notes
        self.desk.loss = self._stand.loss
        self._ended = True


def is_call(value):
    """Return whether the value, of whatever kind, is a tuple of the name of a call and of its arguments."""
    if not isinstance(value, tuple) or len(value) == 0 or not isinstance(value[0], str):
        return False
    return value[0] in CALLS and len(value) == CALLS[value[0]] + 1


def made(desk, name, given):
    """Make the call at the desk; return its news."""
    if name == "ask":
        return desk.ask(*given)
    if name == "narrow":
        return desk.narrow(*given)
    if name == "compare":
        return desk.compare(*given)
    if name == "lose":
        return desk.lose(*given)
    if name == "regain":
        return desk.regain(*given)
    return desk.back()


def tried(trial, deeds):
    """Make the calls at the desk within the trial; return the list of their news and the list of the verdicts then."""
    for place, entry in enumerate(deeds):
        if not is_call(entry):
            raise BadEntry(place)
    news = []
    with trial as desk:
        for entry in deeds:
            news.append(made(desk, entry[0], entry[1:]))
        verdicts = list(desk.stand.verdicts)
    return news, verdicts
