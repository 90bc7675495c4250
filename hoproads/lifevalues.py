"""Rows with rates as values."""

from hoproads.errors import InvalidPlace, Unlike
from hoproads.lifetexts import road_read, text_of_road
from hoproads.plain import check_most
from hoproads.roads import can_hop, check_place, check_rates, check_row, hopped, rate_away
from hoproads.stairs import mirrored_row


class Road:
    """A row with rates."""

    MOST = 12

    def __init__(self, row, rates):
        """Keep a row with rates."""
        check_row(row)
        check_rates(rates)
        self._row = row
        self._rates = rates

    @classmethod
    def read(cls, value):
        """The row with rates of a text of two lines."""
        row, rates = road_read(value)
        return cls(row, rates)

    @property
    def row(self):
        """The row."""
        return self._row

    @property
    def rates(self):
        """The rates."""
        return self._rates

    @property
    def cars(self):
        """How many cars there are."""
        return sum(self._row)

    @property
    def away(self):
        """The sum of the rates of all hops that lead away."""
        return rate_away(self._row, self._rates)

    def __call__(self, hop):
        """The road behind a hop that can be done."""
        return Road(hopped(self._row, hop), self._rates)

    def __rshift__(self, other):
        """The road behind the hop of the car in a place on."""
        return Road(hopped(self._row, ("on", other)), self._rates)

    def __lshift__(self, other):
        """The road behind the hop of the car in a place back."""
        return Road(hopped(self._row, ("back", other)), self._rates)

    def __invert__(self):
        """The road mirrored, with its rates in and out exchanged."""
        entering, leaving, back = self._rates
        return Road(mirrored_row(self._row), (leaving, entering, back))

    def __add__(self, other):
        """The road with the places of both, one behind the other."""
        return Road(row_joined(self, other), self._rates)

    def __iadd__(self, other):
        """Take the places of another road behind the own ones."""
        self._row = row_joined(self, other)
        return self

    def __sub__(self, other):
        """The road without a place."""
        check_place(len(self._row), other)
        if len(self._row) == 1:
            raise InvalidPlace("the only place can't be left out")
        return Road(self._row[:other] + self._row[other + 1:], self._rates)

    def __xor__(self, other):
        """The road with a car in a place if it was free, and the other way round."""
        check_place(len(self._row), other)
        return Road(self._row[:other] + (1 - self._row[other],) + self._row[other + 1:], self._rates)

    def __le__(self, other):
        """Whether in the last places, however many, there are never more cars than in another road."""
        if not isinstance(other, Road) or len(other._row) != len(self._row):
            raise Unlike("a road of as many places is asked for")
        return all([sum(self._row[at:]) <= sum(other._row[at:]) for at in range(len(self._row))])

    def __eq__(self, other):
        """Whether it is a road with the same row and rates."""
        return isinstance(other, Road) and self._row == other._row and self._rates == other._rates

    def __getitem__(self, at):
        """The thing in a place."""
        check_place(len(self._row), at)
        return self._row[at]

    def __contains__(self, x):
        """Whether any value is a hop that can be done."""
        return can_hop(self._row, x)

    def __iter__(self):
        """A road is not iterated over."""
        raise TypeError("a road is not iterated over")

    def __len__(self):
        """How many places there are."""
        return len(self._row)

    def __bool__(self):
        """Whether there is a car."""
        return 1 in self._row

    def __str__(self):
        """The text of two lines."""
        return str(text_of_road(self._row, self._rates))


def row_joined(one, other):
    """The row with the places of a road, and of what must be another one, behind it."""
    if not isinstance(other, Road):
        raise Unlike("another road is asked for")
    row = one.row + other.row
    check_most(len(row), Road.MOST)
    return row
