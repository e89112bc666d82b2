"""Conditions: which there are, and of which rows they hold."""

from codecolumns.errors import BadCondition
from codecolumns.kinds import MOST_LETTERS, WORD, is_column, is_value

# The names of conditions, with what their parts are.
PARTS = {
    "all": (),
    "is": ("column", "value"),
    "less": ("column", "value"),
    "within": ("column", "value", "value"),
    "begins": ("column", "value"),
    "not": ("condition",),
    "and": ("condition", "condition"),
    "or": ("condition", "condition"),
}
MOST_CONDITIONS = 15
MOST_AROUND = 7

# Of which rows of a heap a condition holds, as far as its marks show.
NONE = 0
SOME = 1
ALL = 2


def check_condition(kinds, condition):
    """Refuse what is no condition on columns of these kinds."""
    if many_in(kinds, condition, 0) > MOST_CONDITIONS:
        raise BadCondition(f"there are at most {MOST_CONDITIONS} conditions in one")


def many_in(kinds, condition, around):
    """Tell how many conditions there are in one that lies within so many others, itself too."""
    if around > MOST_AROUND:
        raise BadCondition(f"a condition lies within at most {MOST_AROUND} others")
    check_parts(condition)
    if "condition" not in PARTS[condition[0]]:
        check_values_of(kinds, condition)
        return 1
    return 1 + sum([many_in(kinds, part, around + 1) for part in condition[1:]])


def check_parts(condition):
    if not isinstance(condition, tuple) or len(condition) == 0:
        raise BadCondition("a condition is a tuple, its name first")
    name = condition[0]
    if not isinstance(name, str) or name not in PARTS:
        raise BadCondition("no condition has this name")
    if len(condition) != 1 + len(PARTS[name]):
        raise BadCondition(f"a condition {name} has {len(PARTS[name])} parts")


def check_values_of(kinds, condition):
    if condition[0] == "all":
        return
    if not is_column(kinds, condition[1]):
        raise BadCondition("there is no such column")
    kind = kinds[condition[1]]
    if condition[0] == "begins" and kind != WORD:
        raise BadCondition("only a word begins with a text")
    for value in condition[2:]:
        if not is_value(kind, value):
            raise BadCondition(f"a column {kind} takes no such value")


def holds(condition, row):
    """Tell whether a condition holds of a row."""
    name = condition[0]
    if name == "all":
        return True
    if name == "not":
        return not holds(condition[1], row)
    if name == "and":
        return holds(condition[1], row) and holds(condition[2], row)
    if name == "or":
        return holds(condition[1], row) or holds(condition[2], row)
    return is_wanted(condition, row[condition[1]])


def is_wanted(condition, value):
    """Tell whether a condition on one column wants the value."""
    if condition[0] == "less":
        return value < condition[2]
    low, high = wanted_ends(condition)
    return low <= value <= high


def wanted_ends(condition):
    """Tell the first and the last value that "is", "within" or "begins" wants."""
    if condition[0] == "within":
        return condition[2], condition[3]
    if condition[0] == "begins":
        # A word of so few letters begins with the text just where it lies between these.
        return condition[2], condition[2].ljust(MOST_LETTERS, "z")
    return condition[2], condition[2]


def held_by(condition, marks):
    """Tell by marks alone of which rows a condition holds: of NONE, of SOME perhaps, of ALL."""
    if marks is None:
        return NONE
    name = condition[0]
    if name == "all":
        return ALL
    if name == "not":
        return ALL - held_by(condition[1], marks)
    if name == "and":
        return min(held_by(condition[1], marks), held_by(condition[2], marks))
    if name == "or":
        return max(held_by(condition[1], marks), held_by(condition[2], marks))
    least, greatest = marks[condition[1]]
    return held_between(condition, least, greatest)


def held_between(condition, least, greatest):
    if wants_none(condition, least, greatest):
        return NONE
    if is_wanted(condition, least) and is_wanted(condition, greatest):
        return ALL
    return SOME


def wants_none(condition, least, greatest):
    if condition[0] == "less":
        return not is_wanted(condition, least)
    low, high = wanted_ends(condition)
    return max(low, least) > min(high, greatest)
