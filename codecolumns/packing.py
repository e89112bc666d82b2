"""Packed numbers: as many numbers below a base in each cell as it can hold."""

from codecolumns.errors import BadNumber, BadValues

LEAST_BASE = 2
# A cell is one of so many numbers, from 0 on; no base is greater.
CELL_SIZE = 10000


def per_cell(base):
    """Tell how many numbers below the base a cell holds."""
    if base < LEAST_BASE or base > CELL_SIZE:
        raise BadNumber(f"a base is from {LEAST_BASE} to {CELL_SIZE}, not {base}")
    many = 0
    reach = base
    while reach <= CELL_SIZE:
        many += 1
        reach *= base
    return many


def packed(base, values):
    """Tell the cells that hold the values, one behind the other."""
    many = per_cell(base)
    check_below(base, values)
    return tuple([cell_of(base, values[at:at + many]) for at in range(0, len(values), many)])


def read_packed(base, cells, place):
    """Tell the number at a place of cells, from 0."""
    many = per_cell(base)
    check_below(CELL_SIZE, cells)
    if place < 0 or place >= many * len(cells):
        raise BadNumber(f"{len(cells)} cells have no place {place}")
    return numbers_in(base, cells[place // many])[place % many]


def unpacked(base, cells, many):
    """Tell the first so many numbers of cells that packed told, a list."""
    numbers = []
    for cell in cells:
        numbers.extend(numbers_in(base, cell))
    return numbers[:many]


def check_below(limit, numbers):
    for place, number in enumerate(numbers):
        if number < 0 or number >= limit:
            raise BadValues(place)


def cell_of(base, numbers):
    cell = 0
    for number in reversed(numbers):
        cell = cell * base + number
    return cell


def numbers_in(base, cell):
    # A cell that packed never tells may have more left over behind its last
    # number: that is let go, so that each number read is below the base.
    numbers = []
    rest = cell
    for _ in range(per_cell(base)):
        numbers.append(rest % base)
        rest //= base
    return numbers
