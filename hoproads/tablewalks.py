"""Walks through stair tables, and the orders that they tell.

Steps are numbered from 0 on: the step 0 is a car ahead of all places, the
step p + 1 is the car, or the gap, in the place p.
"""

from hoproads.errors import InvalidPlace
from hoproads.orders import row_by_crossings
from hoproads.plain import ascending, is_from_to
from hoproads.stairs import check_table, mirrored_row, mirrored_table, open_cells, struck_gaps


def turning_cells(row, table):
    """The ascending list of the turning cells of a stair table."""
    check_table(row, table)
    marked = [(car, gap) for car, gap, word in table if word == "gap"]
    turning = [(car + 1, gap + 1) for car, gap in open_cells(row, table) + marked]
    struck = struck_gaps(row, table)
    unstruck = [gap for gap, item in enumerate(row) if item == 0 and gap not in struck]
    return ascending([(0, gap + 1) for gap in unstruck] + turning)


def next_turn(turning, along_car, car, gap):
    """The next turning cell along the car, or along the gap, of a walk in a cell, or None."""
    if along_car:
        ahead = [cell for cell in turning if cell[0] == car and cell[1] < gap]
        return ahead[-1] if ahead else None
    ahead = [cell for cell in turning if cell[1] == gap and cell[0] > car]
    return ahead[0] if ahead else None


def walked(row, turning, step):
    """The pair of the turning cells, in order, at which a walk turns, and of the step at which it ends."""
    along_car = step == 0 or row[step - 1] == 1
    # a walk begins just outside of its cells: behind the greatest gap, or ahead of the least car
    car, gap = (step, len(row) + 1) if along_car else (-1, step)
    turns = []
    cell = next_turn(turning, along_car, car, gap)
    while cell is not None:
        turns.append(cell)
        car, gap = cell
        along_car = not along_car
        cell = next_turn(turning, along_car, car, gap)
    return (tuple(turns), car if along_car else gap)


def walk_from(row, table, step):
    """The pair of the turning cells at which the walk from a step turns, and of the step at which it ends."""
    turning = turning_cells(row, table)
    if not is_from_to(step, 0, len(row)):
        raise InvalidPlace(f"a step from 0 to {len(row)} is asked for")
    return walked(row, turning, step)


def order_by_walks(row, table):
    """The order by walks of a stair table."""
    turning = turning_cells(row, table)
    return tuple([walked(row, turning, step)[1] for step in range(len(row) + 1)])


def ends_without(ends, car, turned):
    """The ends of the walks once the last car is left out, in whose cells with these gaps they turned."""
    starts = {end: start for start, end in ends.items()}
    found = {start: end for start, end in ends.items() if start != car}
    behind = car
    for gap in turned:
        found[starts[behind]] = gap
        behind = gap
    return found


def table_by_walks(order):
    """The pair of the row, and of the stair table of it, whose order by walks an order is.

    The cars are left out from the last one on. A gap at which its own walk
    ends has no turning cell with the cars still there, and so no open cell.
    Of the other cells of the last car none can be lost by a gap: the walk of
    the car goes straight through those ahead of its first turn, of which the
    last one has the mark of the car, and all those from there on turn.
    """
    row = row_by_crossings(order)
    ends = {step: order[step] for step in range(len(order))}
    gaps = [step for step in range(1, len(order)) if row[step - 1] == 0]
    marks = []
    for car in range(len(row), 0, -1):
        if row[car - 1] == 1:
            reached = [gap for gap in gaps if gap > car and ends[gap] != gap]
            passed = [gap for gap in reached if gap > ends[car]]
            turned = [gap for gap in reached if gap <= ends[car]]
            ends = ends_without(ends, car, turned)
            marks.extend([(car - 1, gap - 1, "car") for gap in passed[:1]])
            marks.extend([(car - 1, gap - 1, "gap") for gap in turned if ends[gap] == gap])
    return (row, tuple(ascending(marks)))


def mirrored_order(order):
    """The order by walks of the mirrored stair table whose order by walks an order is."""
    row, table = table_by_walks(order)
    return order_by_walks(mirrored_row(row), mirrored_table(row, table))
