"""Cuts of values into stretches, each laid down by its least form."""

from codecolumns.errors import BadPrices
from codecolumns.forms import MOST, check_values, least_form
from codecolumns.packing import per_cell

# No two values are further apart: twice the greatest one.
FURTHEST = 19998


def cut(values):
    """Tell the cut with the fewest cells; of such the fewest stretches, then the ends that come first, settle it."""
    check_values(values)
    forms = []
    start = 0
    for end in best_ends(values):
        forms.append(least_form(values[start:end]))
        start = end
    return forms


def best_ends(values):
    # From the last value to the first, of each rest of the values its best
    # cut: (cells, stretches, ends). The best cut behind a stretch goes with
    # the best of those that begin with it, for all three are compared in turn.
    many = len(values)
    best = {many: (0, 0, [])}
    for start in reversed(range(many)):
        choices = []
        for end, cells in rooms_from(values, start):
            more, stretches, ends = best[end]
            choices.append((cells + more, 1 + stretches, [end] + ends))
        best[start] = min(choices)
    return best[0][2]


def prices(values):
    """Tell for each place the fewest cells of a cut of the values ahead of it, a list."""
    check_values(values)
    fewest = [0]
    # No cut has more cells than one of stretches of a single value, two cells each.
    for place in range(1, len(values) + 1):
        fewest.append(2 * place)
    for start in range(len(values)):
        for end, cells in rooms_from(values, start):
            fewest[end] = min(fewest[end], fewest[start] + cells)
    return fewest


def bound(values, told):
    """Tell the last of the told prices, if they are prices of the values."""
    check_values(values)
    if len(told) != len(values) + 1:
        raise BadPrices(f"{len(values)} values have {len(values) + 1} prices")
    if told[0] != 0:
        raise BadPrices("the first price is 0")
    for start in range(len(values)):
        for end, cells in rooms_from(values, start):
            if cells < told[end] - told[start]:
                raise BadPrices(f"the stretch from {start} to {end} has {cells} cells only")
    return told[len(values)]


def rooms_from(values, start):
    """Tell (end, fewest cells by any form) of each stretch that begins at start."""
    # Told without laying any stretch down: there are hundreds in 32 values.
    least = values[start]
    greatest = values[start]
    low = FURTHEST
    high = -FURTHEST
    unlike = set()
    rooms = []
    for at in range(start, len(values)):
        least = min(least, values[at])
        greatest = max(greatest, values[at])
        unlike.add(values[at])
        if at > start:
            step = values[at] - values[at - 1]
            low = min(low, step)
            high = max(high, step)
        rooms.append((at + 1, fewest_cells(at + 1 - start, len(unlike), greatest - least, high - low)))
    return rooms


def fewest_cells(many, unlike, span, step_span):
    """Tell the cells of the least form of so many values, so many unlike, with these spans."""
    plain = 1 + many
    if unlike == 1:
        return min(plain, 3)
    cells = min(plain, 2 + unlike + packed_cells(unlike, many))
    if span <= MOST:
        cells = min(cells, 4 + packed_cells(span + 1, many))
    if step_span <= MOST:
        cells = min(cells, 5 + packed_cells(step_span + 1, many - 1))
    return cells


def packed_cells(base, many):
    # Of a base of 1 there is nothing to tell: all steps are alike.
    if base == 1:
        return 0
    each = per_cell(base)
    return (many + each - 1) // each
