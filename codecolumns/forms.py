"""The five forms by which a stretch of values is laid down."""

from codecolumns.errors import BadNumber, BadValues, NoForm
from codecolumns.packing import packed, unpacked

MOST_VALUES = 32
# No value is further from 0, and no span of packed numbers is wider.
MOST = 9999


def check_values(values):
    """Refuse what isn't a list of one to 32 numbers from -9,999 to 9,999."""
    if len(values) == 0:
        raise BadValues(0)
    for place, value in enumerate(values):
        if place >= MOST_VALUES or value < -MOST or value > MOST:
            raise BadValues(place)


# Each maker takes values that are checked, and tells None for those that
# can't have its form.

def make_plain(values):
    return ("plain", tuple(values))


def make_one(values):
    if min(values) < max(values):
        return None
    return ("one", len(values), values[0])


def make_codes(values):
    unlike = tuple(sorted(set(values)))
    if len(unlike) < 2:
        return None
    codes = [unlike.index(value) for value in values]
    return ("codes", len(values), unlike, packed(len(unlike), codes))


def make_near(values):
    least = min(values)
    span = max(values) - least
    if span < 1 or span > MOST:
        return None
    return ("near", len(values), least, span, packed_from(least, span, values))


def make_steps(values):
    if len(values) < 2:
        return None
    steps = [values[at] - values[at - 1] for at in range(1, len(values))]
    low = min(steps)
    span = max(steps) - low
    if span > MOST:
        return None
    return ("steps", len(values), values[0], low, span, packed_from(low, span, steps))


def packed_from(low, span, numbers):
    # A span of 0 would make a base of 1, which there isn't, and nothing to tell.
    if span == 0:
        return ()
    return packed(span + 1, [number - low for number in numbers])


def unpacked_from(low, span, cells, many):
    if span == 0:
        return [low] * many
    return [low + more for more in unpacked(span + 1, cells, many)]


# Each reader takes a form of its maker, and tells the list of its values.

def read_plain(form):
    return list(form[1])


def read_one(form):
    _, many, value = form
    return [value] * many


def read_codes(form):
    _, many, unlike, cells = form
    return [unlike[code] for code in unpacked(len(unlike), cells, many)]


def read_near(form):
    _, many, least, span, cells = form
    return unpacked_from(least, span, cells, many)


def read_steps(form):
    _, many, first, low, span, cells = form
    values = [first]
    for step in unpacked_from(low, span, cells, many - 1):
        values.append(values[-1] + step)
    return values


# In the document's order, which settles between forms of as few cells.
MAKERS = {
    "plain": make_plain,
    "one": make_one,
    "codes": make_codes,
    "near": make_near,
    "steps": make_steps,
}

READERS = {
    "plain": read_plain,
    "one": read_one,
    "codes": read_codes,
    "near": read_near,
    "steps": read_steps,
}


def laid(name, values):
    """Tell the form of that name of the values."""
    if name not in MAKERS:
        raise NoForm("no form has this name")
    check_values(values)
    maker = MAKERS[name]
    form = maker(values)
    if form is None:
        raise NoForm(f"these values have no form {name}")
    return form


def least_form(values):
    """Tell the form with the fewest cells, of as few the first in the document's order."""
    check_values(values)
    least = make_plain(values)
    for name in MAKERS:
        maker = MAKERS[name]
        form = maker(values)
        if form is not None and room(form) < room(least):
            least = form
    return least


def room(form):
    """Tell how many cells a form has: its name and each number within it."""
    cells = 0
    for part in form:
        if isinstance(part, tuple):
            cells += len(part)
        else:
            cells += 1
    return cells


def values_of(form):
    """Tell the values of a form, a new list."""
    reader = READERS[form[0]]
    return reader(form)


def value_at(form, place):
    """Tell the value of a form at a place, from 0."""
    values = values_of(form)
    if place < 0 or place >= len(values):
        raise BadNumber(f"{len(values)} values have no place {place}")
    return values[place]
