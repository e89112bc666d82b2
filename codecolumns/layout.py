"""How a store lies on its disk: a root in one block, and the columns of each heap in a chain of others.

A block is written as a whole or not at all, so a change is settled by the root
alone: whatever it adds is written and settled ahead, in blocks in which nothing
of the store lay. Until the new root stays the old one tells of the old heaps,
whose blocks are as they were.
"""

from codecolumns.columns import column_values
from codecolumns.disk import BLOCKS, MOST_WEIGHT, weight
from codecolumns.heaps import Heap

ROOT = 0
# The number of the next block of a chain lies ahead of what a block holds, and weighs 1.
NEXT_WEIGHT = 1


def write_root(disk, kinds, next_row, next_name, heaps):
    # Twelve heaps and all else weigh 39: a block takes them, as the kinds are one
    # text, and the places that have gone one number.
    told = tuple([(heap.name, gone_number(heap.gone), heap.taken[0]) for heap in heaps])
    disk.write(ROOT, (kinds_text(kinds), next_row, next_name, told))


def kinds_text(kinds):
    return " ".join(kinds)


def gone_number(gone):
    """Tell the truths as a number, the first one counting 1, each next one twice as much."""
    number = 0
    for truth in reversed(gone):
        number = 2 * number
        if truth:
            number += 1
    return number


def gone_truths(number, many):
    """Tell the first so many truths of a number."""
    truths = []
    rest = number
    for _ in range(many):
        truths.append(rest % 2 == 1)
        rest //= 2
    return truths


def blocks_beside(heaps):
    """Tell the blocks in which neither the root lies nor one of the heaps, rising."""
    taken = {ROOT: True}
    for heap in heaps:
        for block in heap.taken:
            taken[block] = True
    return [block for block in range(BLOCKS) if block not in taken]


def bundled(columns):
    """Tell what the blocks of a chain hold for these columns, a tuple for each block."""
    bundles = []
    bundle = []
    for piece in pieces_of(columns):
        if NEXT_WEIGHT + weight(tuple(bundle)) + weight(piece) > MOST_WEIGHT:
            bundles.append(tuple(bundle))
            bundle = []
        bundle.append(piece)
    bundles.append(tuple(bundle))
    return bundles


def pieces_of(columns):
    """Tell the columns in pieces (whose column, whether it is its words, words or form)."""
    pieces = []
    for at, (words, forms) in enumerate(columns):
        if words:
            pieces.append((at, True, words))
        for form in forms:
            pieces.append((at, False, form))
    return pieces


def write_columns(disk, columns, heaps):
    """Write columns into a chain of blocks in which nothing of these heaps lies, and tell the blocks."""
    bundles = bundled(columns)
    taken = blocks_beside(heaps)[:len(bundles)]
    following = taken[1:] + [None]
    for block, after, bundle in zip(taken, following, bundles):
        disk.write(block, (after, bundle))
    return taken


def read_heaps(disk, kinds, told):
    """Tell the heaps of which a root tells, by their names."""
    heaps = []
    for name, number, first in told:
        taken, pieces = read_chain(disk, first)
        columns = columns_of(len(kinds) + 1, pieces)
        gone = gone_truths(number, len(column_values(columns[-1])))
        heaps.append(Heap(name, columns, gone, taken))
    return heaps


def read_chain(disk, first):
    """Tell the blocks of a chain, and the pieces that they hold."""
    taken = []
    pieces = []
    block = first
    while block is not None:
        taken.append(block)
        block, bundle = disk.read(block)
        pieces.extend(bundle)
    return taken, pieces


def columns_of(many, pieces):
    """Tell the so many columns that were told in pieces."""
    words = [()] * many
    forms = [[] for _ in range(many)]
    for at, is_words, part in pieces:
        if is_words:
            words[at] = part
        else:
            forms[at].append(part)
    return list(zip(words, forms))
