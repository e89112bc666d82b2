"""A disk of blocks, that may stop at any deed."""

from codecolumns.errors import BadBlock, Stopped

BLOCKS = 600
MOST_WEIGHT = 40


class Disk:
    """Blocks, of which only what was settled stays for certain when the disk stops."""

    def __init__(self):
        self.settled = [None] * BLOCKS
        self.newest = [None] * BLOCKS
        # The writes that aren't settled yet, in turn: (block, what).
        self.waiting = []
        self.running = True
        # How many deeds are still done; None where nothing is armed.
        self.deeds = None
        self.picks = []

    def write(self, block, what):
        """Put something into a block, for certain only behind the next settle."""
        check_block(block)
        if weight(what) > MOST_WEIGHT:
            raise BadBlock(f"no block takes more than {MOST_WEIGHT}")
        self.spend_deed()
        self.waiting.append((block, what))
        self.newest[block] = what

    def settle(self):
        """Make all that was written stay."""
        self.spend_deed()
        self.settled = list(self.newest)
        self.waiting = []

    def read(self, block):
        """Tell what was written last into a block."""
        check_block(block)
        self.check_running()
        return self.newest[block]

    def arm(self, deeds, picks):
        """Let so many more writes and settles be done; the next one stops the disk, by picks."""
        if self.running:
            self.deeds = deeds
            self.picks = list(picks)

    def stop(self, picks):
        """Stop at once; of the writes that weren't settled those stay whose pick is true."""
        if not self.running:
            return
        for (block, what), pick in zip(self.waiting, picks):
            if pick:
                self.settled[block] = what
        self.running = False

    def again(self):
        """Run with what is settled, nothing armed."""
        self.newest = list(self.settled)
        self.waiting = []
        self.running = True
        self.deeds = None
        self.picks = []

    def blocks(self):
        """Tell all blocks as they are settled, a new list."""
        return list(self.settled)

    def check_running(self):
        if not self.running:
            raise Stopped("the disk has stopped")

    def spend_deed(self):
        self.check_running()
        if self.deeds is None:
            return
        if self.deeds <= 0:
            self.stop(self.picks)
            raise Stopped("the disk stops at this deed")
        self.deeds -= 1


def check_block(block):
    if block < 0 or block >= BLOCKS:
        raise BadBlock(f"there is no block {block}")


def weight(what):
    """Tell how many numbers, texts, truths and None there are in what is put into a block."""
    # Gone through without recursion: tuples may lie within one another however deep.
    parts = [what]
    many = 0
    while parts:
        part = parts.pop()
        if isinstance(part, tuple):
            parts.extend(part)
        else:
            many += 1
    return many
