"""Conditions written as texts, and read from them."""

from codecolumns.conditions import PARTS, check_condition
from codecolumns.errors import BadText
from codecolumns.kinds import check_kinds, is_word

MOST_FIGURES = 4


def written(kinds, condition):
    """Tell a condition by its words, one blank between."""
    check_kinds(kinds)
    check_condition(kinds, condition)
    return " ".join(words_of(condition))


def words_of(condition):
    words = [condition[0]]
    for part in condition[1:]:
        if isinstance(part, tuple):
            words.extend(words_of(part))
        elif isinstance(part, str):
            words.append("=" + part)
        else:
            words.append(str(part))
    return words


def read(kinds, text):
    """Tell the condition that was written as the text."""
    check_kinds(kinds)
    words = text.split(" ")
    check_words(words)
    condition = built(words)
    check_condition(kinds, condition)
    return condition


def check_words(words):
    """Refuse words that, one behind the other, aren't those of a single condition's places."""
    # What must still come, the next one last: True for a name, False for another part.
    wanted = [True]
    for place, word in enumerate(words):
        if not wanted:
            raise BadText(place)
        if not wanted.pop():
            if not is_part(word):
                raise BadText(place)
        elif word in PARTS:
            wanted.extend([part == "condition" for part in reversed(PARTS[word])])
        else:
            raise BadText(place)
    if wanted:
        raise BadText(len(words))


def is_part(word):
    if word.startswith("="):
        return is_word(word[1:])
    figures = word.removeprefix("-")
    if not figures.isdecimal() or len(figures) > MOST_FIGURES:
        return False
    # Needless figures, and the sign of a nought, don't come back.
    return str(int(word)) == word


def built(words):
    """Tell the condition of words that are checked."""
    # From the last word to the first, so that a name's parts are there when it
    # comes, and without recursion: the text may tell of more than a condition can have.
    parts = []
    for word in reversed(words):
        if word in PARTS:
            condition = [word]
            for _ in PARTS[word]:
                condition.append(parts.pop())
            parts.append(tuple(condition))
        elif word.startswith("="):
            parts.append(word[1:])
        else:
            parts.append(int(word))
    return parts[0]
