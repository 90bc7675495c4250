"""Weights, ordered sums and stair tables straight from their definitions, slowly, for the tests to compare with."""

import itertools
from fractions import Fraction

ONE = {(0, 0, 0): 1}


def added(*sums):
    """The sum of dicts from keys to many."""
    totals = {}
    for one in sums:
        for key, many in one.items():
            totals[key] = totals.get(key, 0) + many
    return totals


def times(one, other):
    """The product of two dicts from triples to many."""
    totals = {}
    for (x, y, z), many in one.items():
        for (u, v, w), more in other.items():
            key = (x + u, y + v, z + w)
            totals[key] = totals.get(key, 0) + many * more
    return totals


def terms(totals):
    """The ascending tuple of terms of a dict."""
    return tuple(sorted(key + (many,) for key, many in totals.items() if many))


def totals(some_terms):
    return {term[:3]: term[3] for term in some_terms}


def weight_told(row, pick=0, known=None):
    """The weight of a row by the rules of [8]; pick tells which pair of a car and a gap is taken."""
    known = {} if known is None else known
    if row not in known:
        if row == ():
            known[row] = ONE
        elif row[0] == 0:
            known[row] = times({(0, 1, 0): 1}, weight_told(row[1:], pick, known))
        elif row[-1] == 1:
            known[row] = times({(0, 0, 1): 1}, weight_told(row[:-1], pick, known))
        else:
            pairs = [at for at in range(len(row) - 1) if row[at:at + 2] == (1, 0)]
            at = pairs[pick % len(pairs)]
            ahead, behind = row[:at], row[at + 2:]
            bent = times({(1, 0, 0): 1}, weight_told(ahead + (0, 1) + behind, pick, known))
            known[row] = added(bent, weight_told(ahead + (1,) + behind, pick, known),
                               weight_told(ahead + (0,) + behind, pick, known))
    return known[row]


def value_told(rates, some_terms):
    """The value of a weight at rates."""
    entering, leaving, back = [Fraction(*rate) for rate in rates]
    return sum((many * back ** x / entering ** y / leaving ** z for x, y, z, many in some_terms), Fraction(0))


def pair(number):
    number = Fraction(number)
    return (number.numerator, number.denominator)


def sum_told(word, pick=0, known=None):
    """The ordered sum of a word by [12], as a dict; pick tells at which place it is changed."""
    known = {} if known is None else known
    if word not in known:
        places = [at for at in range(len(word) - 1) if word[at:at + 2] == "DE"]
        if not places:
            known[word] = {(word.count("E"), word.count("D"), 0): 1}
        else:
            at = places[pick % len(places)]
            ahead, behind = word[:at], word[at + 2:]
            bent = {(i, j, x + 1): many for (i, j, x), many in sum_told(ahead + "ED" + behind, pick, known).items()}
            known[word] = added(bent, sum_told(ahead + "D" + behind, pick, known),
                                sum_told(ahead + "E" + behind, pick, known))
    return known[word]


def cells_told(row):
    places = range(len(row))
    return [(car, gap) for car in places for gap in places if row[car] == 1 and row[gap] == 0 and car < gap]


def lost_told(row, table):
    """The lost cells of a table of marks, by [9]."""
    lost = set()
    for car, gap, word in table:
        for cell in cells_told(row):
            if word == "car" and cell[0] == car and cell[1] > gap:
                lost.add(cell)
            if word == "gap" and cell[1] == gap and cell[0] < car:
                lost.add(cell)
    return lost


def tables_told(row):
    """The ascending list of all stair tables of a row, out of all choices of marks."""
    found = []
    cells = cells_told(row)
    for words in itertools.product((None, "car", "gap"), repeat=len(cells)):
        table = tuple(cell + (word,) for cell, word in zip(cells, words) if word)
        if not lost_told(row, table) & {mark[:2] for mark in table}:
            found.append(table)
    return sorted(found)


def table_weight_told(row, table):
    """The weight of a stair table by [9]."""
    lost = lost_told(row, table)
    marked = {mark[:2] for mark in table}
    still_open = [cell for cell in cells_told(row) if cell not in lost and cell not in marked]
    struck = {car if word == "car" else gap for car, gap, word in table}
    gaps = [place for place, item in enumerate(row) if item == 0 and place not in struck]
    cars = [place for place, item in enumerate(row) if item == 1 and place not in struck]
    return ((len(still_open), len(gaps), len(cars), 1),)


def trails_told(steps):
    """The ascending list of all trails of so many steps, out of all choices of steps."""
    found = []
    for trail in itertools.product((-1, 0, 1), repeat=steps):
        heights = list(itertools.accumulate(trail, initial=0))
        if min(heights) >= 0 and heights[-1] == 0:
            found.append(trail)
    return found


def count_told(back, height):
    return sum((back ** power for power in range(height)), Fraction(0))


def level_told(rates, height):
    """The level weight of a height by [22], a Fraction."""
    entering, leaving, back = [Fraction(*rate) for rate in rates]
    return (1 / entering + 1 / leaving) * back ** height + 2 * count_told(back, height)


def fall_told(rates, height):
    """The fall weight of a height by [22], a Fraction."""
    entering, leaving, q = [Fraction(*rate) for rate in rates]
    a, b = 1 / entering, 1 / leaving
    inner = count_told(q, height - 1) + q ** (height - 1) * (a + b + q * a * b - a * b)
    return count_told(q, height) * inner


def ways_told(rates, low, high, steps, known=None):
    """The sum of the weights of all ways of so many steps from a height to another one, a Fraction."""
    known = {} if known is None else known
    key = (low, steps)
    if key not in known:
        if steps == 0:
            known[key] = Fraction(int(low == high))
        else:
            total = ways_told(rates, low + 1, high, steps - 1, known)
            total += level_told(rates, low) * ways_told(rates, low, high, steps - 1, known)
            if low > 0:
                total += fall_told(rates, low) * ways_told(rates, low - 1, high, steps - 1, known)
            known[key] = total
    return known[key]


def moment_told(rates, steps):
    return ways_told(rates, 0, 0, steps)
