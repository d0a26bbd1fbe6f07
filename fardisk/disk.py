"""The disk: 2048 blocks of 512 octets."""

BLOCKS = 2048
BLOCK_SIZE = 512


# Only blocks that were written are kept, and a block is replaced, never changed:
# so a copy of the disk is a copy of one short dict.
class Disk:
    def __init__(self):
        self.written = {}
        self.blank = [0] * BLOCK_SIZE

    def twin(self):
        other = Disk()
        other.written = dict(self.written)
        return other

    def blocks_from(self, first, many):
        return [self.written.get(block, self.blank) for block in range(first, first + many)]

    def write_from(self, first, octets):
        for step in range(len(octets) // BLOCK_SIZE):
            at = step * BLOCK_SIZE
            self.written[first + step] = octets[at:at + BLOCK_SIZE]
