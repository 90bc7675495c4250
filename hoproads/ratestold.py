"""Rates told by shares and by flows.

With r for in divided by out, and w for in, out and back added, the weights of
the first rows, divided by that of the row without cars, tell them: r is that
of the row with a car in the last place alone, r * w that with one in the last
place but one, and r * w ** 2 + (1 - w) * in that in the place ahead of it.
"""

from hoproads.errors import InvalidFlows
from hoproads.plain import added, divided, is_below, is_fraction, less, times, total_of
from hoproads.roads import check_places, check_rates
from hoproads.shares import check_shares, unsteady_at

MOST_IN_FLOWS = 10 ** 9
NOUGHT = (0, 1)
ONE = (1, 1)


def ratio_of(rates):
    """The fraction in divided by out."""
    return divided(rates[0], rates[1])


def whole_of(rates):
    """The sum of in, out and back."""
    return total_of(list(rates))


def without_back(ratio, whole):
    """The rates without hops back, with a fraction in divided by out, and with a sum of both."""
    leaving = divided(whole, added(ONE, ratio))
    return (times(ratio, leaving), leaving, NOUGHT)


def by_three_rows(shares, ratio, whole):
    """The rates that the shares of the first rows of three places or more tell, if the sum of these is not 1."""
    rest = less(divided(shares[4], shares[0]), times(ratio, times(whole, whole)))
    entering = divided(rest, less(ONE, whole))
    leaving = divided(entering, ratio)
    return (entering, leaving, less(whole, added(entering, leaving)))


def is_steady_at(rates, places, shares):
    """Whether some fractions are rates, of any size, at which shares are steady."""
    if rates[0][0] <= 0 or rates[1][0] <= 0 or rates[2][0] < 0:
        return False
    return unsteady_at(rates, places, shares) == []


def rates_told(places, shares):
    """The tuple that tells at which rates shares are steady."""
    check_shares(places, shares)
    # from each row hops lead to each other one, so no steady share is 0
    if NOUGHT in shares:
        return ("none",)
    ratio = divided(shares[1], shares[0])
    if places == 1:
        return ("ratio", ratio)
    whole = divided(shares[2], shares[1])
    if places == 2 or whole == ONE:
        return ("sum", ratio, whole) if is_steady_at(without_back(ratio, whole), places, shares) else ("none",)
    rates = by_three_rows(shares, ratio, whole)
    return ("rates", rates) if is_steady_at(rates, places, shares) else ("none",)


def alike_rates(places, one, other):
    """Whether two rates have the same steady shares on a road of so many places."""
    check_places(places)
    check_rates(one)
    check_rates(other)
    if ratio_of(one) != ratio_of(other):
        return False
    if places == 1 or one == other:
        return True
    # on roads of three places or more all sums but 1 tell the rates
    return whole_of(one) == whole_of(other) and (places == 2 or whole_of(one) == ONE)


def check_flow(value):
    """Raise InvalidFlows for what is no fraction above 0 with top and below at most 10 ** 9."""
    if not is_fraction(value) or not 1 <= value[0] <= MOST_IN_FLOWS or value[1] > MOST_IN_FLOWS:
        raise InvalidFlows("a fraction above 0 is asked for, with top and below at most 10 ** 9")


def check_free(value):
    """Raise InvalidFlows for what is no such fraction, or not less than 1."""
    check_flow(value)
    if not is_below(value, ONE):
        raise InvalidFlows("a fraction less than 1 is asked for")


def rates_by_flows(free, one, two):
    """The rates with a share of the free place, and flows of one place and of two, or None if there are none."""
    check_free(free)
    check_flow(one)
    check_flow(two)
    # the free place lets in what flows, and the car lets it out
    rates = (divided(one, free), divided(one, less(ONE, free)))
    a = divided(ONE, rates[0])
    b = divided(ONE, rates[1])
    # the whole weight of two places is a * a + a * b + b * b + a + b + q * a * b, that of one place a + b
    whole = divided(added(a, b), two)
    others = total_of([times(a, a), times(a, b), times(b, b), a, b])
    back = divided(less(whole, others), times(a, b))
    return None if back[0] < 0 else rates + (back,)
