"""All errors of this package."""


class HopError(ValueError):
    """The base class of all errors of this package."""


class InvalidRow(HopError):
    """What must be a row is none."""


class InvalidRates(HopError):
    """What must be rates is none."""


class InvalidPlaces(HopError):
    """A number of places is none, or out of its bounds."""


class InvalidPlace(HopError):
    """There is no such place, or it can't be taken here."""


class InvalidHop(HopError):
    """There is no such hop."""


class InvalidShares(HopError):
    """What must be shares is none."""


class InvalidWeight(HopError):
    """What must be a weight is none."""


class InvalidTable(HopError):
    """What must be a stair table of a row is none."""


class InvalidNumber(HopError):
    """A number is none, or out of its bounds."""


class InvalidWord(HopError):
    """What must be a word is none."""


class InvalidSum(HopError):
    """What must be an ordered sum is none."""


class InvalidWordTree(HopError):
    """What must be a word tree of a word is none."""


class InvalidOrder(HopError):
    """What must be an order is none."""


class InvalidSteps(HopError):
    """A number of steps is none, or out of its bounds."""


class InvalidTrail(HopError):
    """What must be a trail is none."""


class InvalidHeight(HopError):
    """A height is none, or out of its bounds."""


class InvalidPolynomial(HopError):
    """What must be a polynomial is none."""


class InvalidMoments(HopError):
    """What must be moments is none."""


class InvalidHistory(HopError):
    """What must be a history is none."""


class InvalidBoard(HopError):
    """What must be a board is none."""


class InvalidHops(HopError):
    """What must be hops, one after another, is none."""


class InvalidLine(HopError):
    """What must be a line is none."""


class InvalidSlot(HopError):
    """There is no such slot."""


class InvalidSpent(HopError):
    """What must be spent cars is none."""


class InvalidBrackets(HopError):
    """What must be brackets is none."""


class InvalidEnds(HopError):
    """What must be ends is none."""


class InvalidWheel(HopError):
    """What must be a wheel is none."""


class InvalidCounts(HopError):
    """What must be the counts of a wheel is none."""


class InvalidQueueLines(HopError):
    """What must be queue lines is none."""


class InvalidQueueLine(HopError):
    """What must be one more queue line is none."""


class InvalidSort(HopError):
    """There is no such sort, or it can't be taken here."""


class TooFew(HopError):
    """There are fewer things than must be."""


class InvalidWaits(HopError):
    """What must be waits is none."""


class InvalidTimes(HopError):
    """What must be times is none."""


class InvalidGate(HopError):
    """There is no such gate, or it can't be taken here."""


class InvalidCar(HopError):
    """There is no such car, or it can't be taken here."""


class InvalidTime(HopError):
    """A time is none, or out of its bounds."""


class InvalidSequence(HopError):
    """What must be all gates, or all cars, each once, is none."""


class InvalidFacts(HopError):
    """What must be facts is none."""


class InvalidFlows(HopError):
    """What must be a share and flows is none."""


class InvalidPaper(HopError):
    """What must be a look paper is none."""


class InvalidState(HopError):
    """What must be a state is none."""


class InvalidStep(HopError):
    """What must be a step is none."""


class InvalidScript(HopError):
    """What must be a script is none."""


class InvalidText(HopError):
    """What must be a text of a thing is none."""


class Stuck(HopError):
    """A step can't be done in a state."""


class NothingToUndo(HopError):
    """There is no call that can be taken back."""


class NothingToRedo(HopError):
    """There is no call that can be done again."""


class Unlike(HopError):
    """Two things do not go together."""


class TooMany(HopError):
    """There are more things than a limit lets."""

    def __init__(self, limit):
        """Keep the limit, and tell it in the message."""
        HopError.__init__(self, f"at most {limit}")
        self.limit = limit
