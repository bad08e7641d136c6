"""The errors of the package. All of them stand directly under PricesError.

A message never shows a value that a caller has handed in: such a value may be of any kind, and writing it out
could fail. The attributes hold it.
"""


class PricesError(ValueError):
    """The base of all errors of the package."""


class BadNumber(PricesError):
    """The argument for the parameter `name` is not a number that fits."""

    def __init__(self, name):
        super().__init__(f"{name} is not a number that fits")
        self.name = name


class BadThing(PricesError):
    """A value is not one of the things that may stand there."""

    def __init__(self, thing):
        super().__init__("this is not one of the things that may stand here")
        self.thing = thing


class BadSet(PricesError):
    """The entry at `place` is not a thing, or not greater than the entry before it."""

    def __init__(self, place):
        super().__init__(f"entry {place} of the set is no thing or does not ascend")
        self.place = place


class BadEntry(PricesError):
    """The entry at `place` does not fit."""

    def __init__(self, place):
        super().__init__(f"entry {place} does not fit")
        self.place = place


class Twice(PricesError):
    """The entry at `place` also stands at a lesser place."""

    def __init__(self, place):
        super().__init__(f"entry {place} also stands at a lesser place")
        self.place = place


class BadPair(PricesError):
    """The entry at `place` is not a pair that fits."""

    def __init__(self, place):
        super().__init__(f"entry {place} is not a pair that fits")
        self.place = place


class BadStretch(PricesError):
    """The bounds or the price given for the thing do not fit."""

    def __init__(self, thing):
        super().__init__("the bounds or the price of this thing do not fit")
        self.thing = thing


class BadWorld(PricesError):
    """The world does not fit at `place`."""

    def __init__(self, place):
        super().__init__(f"the world does not fit at place {place}")
        self.place = place


class BadOrder(PricesError):
    """The order does not fit at `place`."""

    def __init__(self, place):
        super().__init__(f"the order does not fit at place {place}")
        self.place = place


class OtherSize(PricesError):
    """The notes are for `size` things, the rule for another number of things."""

    def __init__(self, size):
        super().__init__(f"the notes are for {size} things, the rule is not")
        self.size = size


class TooMany(PricesError):
    """`number` is too great for what is asked."""

    def __init__(self, number):
        super().__init__(f"{number} are too many here")
        self.number = number


class NoLots(PricesError):
    """A list of lots is empty."""

    def __init__(self):
        super().__init__("there is not a single lot")


class BadLots(PricesError):
    """A list of sets has the fault (one, other, thing)."""

    def __init__(self, one, other, thing):
        super().__init__(f"set {one} without thing {thing} takes nothing from set {other}")
        self.one = one
        self.other = other
        self.thing = thing


class NotALot(PricesError):
    """The set is not a lot."""

    def __init__(self, things):
        super().__init__("the set is not a lot")
        self.things = things


class NotFree(PricesError):
    """The set is not free."""

    def __init__(self, things):
        super().__init__("the set is not free")
        self.things = things


class IsBlow(PricesError):
    """The loss of the set is a blow."""

    def __init__(self, things):
        super().__init__("the loss of the set is a blow")
        self.things = things


class IsFirm(PricesError):
    """The thing is firm."""

    def __init__(self, thing):
        super().__init__("the thing is firm")
        self.thing = thing


class IsDead(PricesError):
    """The thing is dead."""

    def __init__(self, thing):
        super().__init__("the thing is dead")
        self.thing = thing


class NotGood(PricesError):
    """No world agrees: the row of comparisons is a ring, or it clashes."""

    def __init__(self, row):
        super().__init__("no world agrees: the row is a ring or clashes")
        self.row = row


class NotPlain(PricesError):
    """The notes have comparisons where plain ones are needed."""

    def __init__(self):
        super().__init__("the notes are not plain")


class NotAgreeing(PricesError):
    """The world does not agree with the notes at the thing."""

    def __init__(self, thing):
        super().__init__("the world does not agree with the notes")
        self.thing = thing


class NotTrue(PricesError):
    """The comparison at `place` is not true in the order."""

    def __init__(self, place):
        super().__init__(f"comparison {place} is not true in the order")
        self.place = place


class IsSeen(PricesError):
    """The thing is seen."""

    def __init__(self, thing):
        super().__init__("the thing is seen")
        self.thing = thing


class NothingBack(PricesError):
    """No deed is left that could be taken back."""

    def __init__(self):
        super().__init__("no deed is left that could be taken back")


class IsLost(PricesError):
    """The thing is lost."""

    def __init__(self, thing):
        super().__init__("the thing is lost")
        self.thing = thing


class NotLost(PricesError):
    """The thing is not lost."""

    def __init__(self, thing):
        super().__init__("the thing is not lost")
        self.thing = thing


class Closed(PricesError):
    """What can be entered only once was entered before."""

    def __init__(self):
        super().__init__("this was entered before")
